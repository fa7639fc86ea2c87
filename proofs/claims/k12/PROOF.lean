import PyProof.Rows.All
import HandS.ExcCtx
import Wide.All
import OpenK.AllK
import Wide.FinOn
import HandS.ForMost
import HandS.Exc
import HandS.ExcOwn
import HandS.TryOnly
import HandS.WordsExc
import HandS.FStr
import HandS.RaiseMore
import HandS.ExcIs
import HandS.IsInst
import HandS.AnyAll
import HandS.EndTab
import HandS.EndOwn
import HandS.Wide
import HandS.Evl
import HandS.Codes
import HandS.DictTup
import HandS.TupLen
import HandS.CallSlots
import HandS.HotCalls
import HandS.SetKeys
import HandS.RevRange
import HandS.Strs
import HandS.Style
import KE.KDictZip
import KE.DatumOrd
import HandS.SortKw
import HandS.Walk
import PySem.Challenge.RW_farebreak_k12_lines
set_option Elab.async false
set_option linter.all false
set_option maxRecDepth 100000
set_option maxHeartbeats 2000000
/-! own tools over the hand layer -/
namespace Fb
open PySem PySem.Spec PyProof.Rows L2

/-! ### a code object's table as an object that only is what it is -/
def TabP (P : Addr) : Heap → Prop := fun h => ∃ ps : Array Value, h.get? P = some { cls := .none, data := .fields ps } ∧ TriplesOk ps.toList
def TabO (P : Addr) : HO := .ext (TabP P)
theorem tabO_ok {Pg : Program} {w : World} {H : Hp} {h : Heap} {P : Addr} {ps : Array Value} (e : h.get? P = some { cls := .none, data := .fields ps }) (t : TriplesOk ps.toList) : ObjOk Pg w H h P (TabO P) :=
  ⟨⟨ps, e, t⟩, ⟨_, e⟩, fun h1 h2 ⟨qs, e1, t1⟩ k => ⟨qs, k _ e1, t1⟩⟩
theorem mut_tabO {P : Addr} : Mut (some (TabO P)) := trivial
section
variable {X : Cx} {pins : List (Addr × Obj)} {σ : L2.St} {H H2 : Hp} {s s' : Shared} {P : Addr}
/-- from the table as such to the table by its fields -/
theorem tab_open (I : Inv X pins σ H s) (hP : H P = some (TabO P)) : ∃ ps : Array Value, TriplesOk ps.toList ∧ Inv X pins σ (upd H P (.tbl ps)) s := by
  obtain ⟨⟨ps, e, t⟩, _, _⟩ := I.hok P _ hP
  refine ⟨ps, t, ?_⟩
  have J := I.write (h' := s.heap) (t' := s.toks) (x := P) (e := P) (o := .tbl ps) (by rw [hP]; exact mut_tabO) (Or.inl rfl) (fun b u _ q => q) ⟨_, e⟩ (show ObjOk X.prog X.w _ s.heap P (.tbl ps) from e)
  exact J
theorem tab_shut (I : Inv X pins σ H s) (hP : H P = some (TabO P)) (J : Inv X pins σ H2 s') (hT : GxR.TabG H2 P) (hE : ∀ b, b ≠ P → H2 b = H b) : Inv X pins σ H s' := by
  obtain ⟨ps, hps, ht⟩ := hT
  have e : s'.heap.get? P = some { cls := .none, data := .fields ps } := J.hok P _ hps
  have at_ : ∀ b, H b = none → H2 b = none := fun b n => by rw [hE b (fun z => by rw [z, hP] at n; cases n)]; exact n
  have to_ : ∀ b, H2 b = none → H b = none := fun b n => by rw [← hE b (fun z => by rw [z, hps] at n; cases n)]; exact n
  refine ⟨J.ok, J.os, J.bare, ⟨J.base.keep, J.base.slot, fun b o h1 h2 h3 => to_ b (J.base.free b o h1 h2 h3), J.base.there, fun b xs h1 => ?_, fun b o u h1 => ?_, fun b qs h1 => ?_⟩, J.loc, J.cell, to_ _ J.free, fun x c h1 => to_ _ (J.freeC x c h1), fun p hp => ?_, fun a o ha => ?_, J.len⟩
  · have h2 := J.base.tups b xs h1
    have nb : b ≠ P := fun z => by rw [z, hps] at h2; cases h2
    rw [← hE b nb]; exact h2
  · have h2 := J.base.frzs b o u h1
    have nb : b ≠ P := fun z => by rw [z, hps] at h2; cases h2
    rw [← hE b nb]; exact h2
  · obtain ⟨m1, h2⟩ := I.base.tbls b qs h1
    have nb : b ≠ P := fun z => by rw [z, hP] at h2; cases h2
    obtain ⟨m2, h3⟩ := J.base.tbls b qs h1
    exact ⟨m2, by rw [← hE b nb]; exact h3⟩
  · obtain ⟨e1, n, r⟩ := J.pin p hp
    exact ⟨e1, to_ _ n, r⟩
  · by_cases hb : a = P
    · subst hb
      rw [hP] at ha; cases ha
      exact tabO_ok e ht
    · have ha2 : H2 a = some o := by rw [hE a hb]; exact ha
      refine (J.hok a o ha2).stay (fun d v _ q => q) (fun d q => ?_) fun d xs q => ?_
      · have nb : d ≠ P := fun z => by rw [z, hps] at q; cases q
        rw [← hE d nb]; exact q
      · have nb : d ≠ P := fun z => by rw [z, hps] at q; cases q
        rw [← hE d nb]; exact q
end
/-- an expression that reads a text and may let the table at P grow: seen from outside nothing changes -/
theorem pe_allP {X : Cx} {e : Expr} {P : Addr} {pb : Nat → Bool} {i : Nat} (h : PE X e (GxR.tAllS P pb (tVar i))) :
    PE X e (fun σ H Q => ∃ a : Str, σ[i]? = some (some (.str a)) ∧ H P = some (TabO P) ∧ Q (.bl (a.cps.toList.all pb)) H) := by
  refine ⟨fun pins s σ H Q I hq => ?_⟩
  obtain ⟨a, ha, hP, q⟩ := hq
  obtain ⟨ps, ht, J⟩ := tab_open I hP
  refine thn (h.run pins s σ (upd H P (.tbl ps)) (fun v H2 => v = .bl (a.cps.toList.all pb) ∧ GxR.Tabbed P (upd H P (.tbl ps)) H2) J ⟨.str a, ha, a, rfl, ⟨ps, upd_same, ht⟩, fun H2 hT => ⟨rfl, hT⟩⟩) fun u s1 ⟨v, H2, J2, r, ev, hT⟩ => ?_
  subst ev
  exact ⟨_, H, tab_shut I hP J2 hT.1 (fun b hb => (hT.2 b hb).trans (upd_ne hb)), r, q⟩
/-- 'a' <= sign <= 'z' -/
theorem elt_btw {prog : Program} {w : World} {scope : Scope} {x a b : Str} {j1 j2 : Nat} {p1 p2 p3 p4 : Pos} (hk : scope.kind = .function) (hl : scope.names.lookup x = some .local) (hd : (x == ("__debug__" : Str)) = false := by decide) :
    GxR.EltP prog w scope x (.Compare (.Constant (.str a) j1 p1) [.LtE, .LtE] [.Name x p2, .Constant (.str b) j2 p3] p4) (fun c => !decide ([c] < a.cps.toList) && !decide (b.cps.toList < [c])) := by
  intro cenv A' E' c t s₂ m₂ hs hn hm
  refine Compare_chain (Calls.Constant_str (chain_link ?_)) (by with_unfolding_all rfl)
  refine wpAny_Name (wpAny_loadName_local (by rw [hs]; exact hk) (show cenv.scope.names.lookup x = some .local by rw [hs]; exact hl) (show Heap.Ns _ cenv.locals m₂ from hn) hm ?_) hd
  refine PySem.P.le_str ?_
  refine wpAny_truthy_bool ?_
  show if (!decide (([c] : List Nat) < a.cps.toList)) = true then _ else _
  cases h1 : decide (([c] : List Nat) < a.cps.toList) with
  | true => exact ⟨(by show Value.bool (!true) = Value.bool (!decide (([c] : List Nat) < a.cps.toList) && !decide (b.cps.toList < [c])); rw [h1]; rfl), GxR.keeps_tok _ _⟩
  | false =>
    show wpAny _ _ _ _ _ _
    refine chain_last (Calls.Constant_str (PySem.P.le_str ⟨?_, GxR.keeps_tok _ _⟩))
    show Value.bool (!decide (b.cps.toList < ([c] : List Nat))) = Value.bool (!decide (([c] : List Nat) < a.cps.toList) && !decide (b.cps.toList < [c]))
    rw [h1]; rfl

/-! ### texts -/
theorem op_repS {X : Cx} : OpR X (binaryOp .Mult) (fun x y H Q => ∃ z n, x = .str z ∧ y = .int n ∧ MulOk z n ∧ Q (.str (Txt.mul z n)) H) := by
  intro pins s σ H x y v u Q I rx ry h
  obtain ⟨z, n, rfl, rfl, hok, q⟩ := h
  obtain ⟨t, rfl⟩ := rx
  obtain ⟨t', rfl⟩ := ry
  exact SB.mul hok fun t'' k => ⟨.str _, H, I.tok _, ⟨_, rfl⟩, q⟩
theorem mulOk_small {z : Str} {n : Int} (h0 : 0 ≤ n) (h1 : n ≤ 1000) (hz : z.length ≤ 1000) : MulOk z n := by
  refine ⟨?_, fun h2 _ => ?_, fun h2 _ => ?_⟩
  · rw [decide_eq_false (by omega), decide_eq_false (by omega)]; rfl
  · have h3 : (9223372036854775807 : Int) / n ≥ 9223372036854775 := by
      have h4 : (9223372036854775 : Int) * n ≤ 9223372036854775807 := by omega
      exact (Int.le_ediv_iff_mul_le (by omega)).mpr h4
    have h5 : ((2 : Int) ^ 63 - 1) = 9223372036854775807 := by decide
    rw [h5]
    omega
  · unfold Builtin.Str.tooLong
    refine decide_eq_false ?_
    rw [sizeLine_eq]
    have h6 : z.length * n.toNat ≤ 1000 * 1000 := Nat.mul_le_mul hz (by omega)
    omega
theorem foldl_app_size (x : Array Nat) : ∀ (n : Nat) (acc : Array Nat), ((List.replicate n x).foldl (· ++ ·) acc).size = acc.size + n * x.size
  | 0, acc => by simp
  | n + 1, acc => by
    rw [List.replicate_succ, List.foldl_cons, foldl_app_size x n (acc ++ x), Array.size_append, Nat.succ_mul]
    omega
theorem mul_length (z : Str) (n : Int) (h0 : 0 ≤ n) : (Txt.mul z n).length = z.length * n.toNat := by
  unfold Txt.mul
  by_cases h1 : n < 1
  · rw [if_pos h1]
    have e : n = 0 := by omega
    subst e
    show Str.empty.length = _
    simp [Str.empty, Str.length]
  · rw [if_neg h1]
    by_cases h2 : (n == 1 || z.length == 0) = true
    · rw [if_pos h2]
      rcases Bool.or_eq_true_iff.mp h2 with h3 | h3
      · have e : n = 1 := by simpa using h3
        subst e; simp
      · have e : z.length = 0 := by simpa using h3
        rw [e]; simp
    · rw [if_neg h2]
      show ((List.replicate n.toNat z.cps).foldl (· ++ ·) #[]).size = z.cps.size * n.toNat
      rw [foldl_app_size]
      simp [Nat.mul_comm]

/-! ### a module's whole number -/
theorem pe_gint {X : Cx} {x : Str} {i : Int} {pos : Pos} (h : ∃ t, X.mg x = some (.int i t)) (hg : Gl X x) (hd : (x == ("__debug__" : Str)) = false := by decide) : PE X (.Name x pos) (tC (.int i)) := by
  obtain ⟨t, e⟩ := h
  exact pe_glob hg e ⟨t, rfl⟩ hd

/-! ### wishes about errors whose context is None -/
theorem passLN {X : Cx} : Passes (L2N.CX X.prog X.w) X E0 := fun _ _ _ _ _ _ _ h => by
  obtain ⟨_, _, _, _, _, _, _, _, _, _, _, _, z⟩ := h
  exact False.elim z
theorem takesN0 {X : Cx} : L2N.Takes X (fun _ _ _ _ => False) := fun _ _ x => by
  obtain ⟨_, _, _, _, _, _, _, _, _, _, _, _, _, _, _, _, z⟩ := x
  exact False.elim z
/-- X(e), its context None -/
theorem pmk_ownN1 {X : Cx} {D : Addr} {bs : List Value} {bn nw ini : String} {y : Str} {arg : Expr} {tw : TE} {p1 p2 : Pos} (F : ExcBaseFacts bn nw ini bs) (ei : PySem.W.excIn X.K D bs nw = true) (gD : X.mg y = some (.ref D))
    (kD : PySem.W.keepIn X.K (.ref D) = true) (rs : Raises X (.ref D)) (gl : Gl X y) (hw : PE X arg tw) (st : starEach [arg] X.env = (false, eval arg X.env) :: starEach [] X.env := by rfl)
    (db : (y == ("__debug__" : Str)) = false := by decide) : L2N.PMk X (.Call (.Name y p1) [arg] [] p2) (fun σ H Q => tw σ H fun _ J => Q (.ref D) none J) := fun pins s σ H Q I wish => by
  refine wpAny_Call_Name_kw (ld_glob I gl gD (PySem.W.callWith_K (h₀ := X.base) I.ok.mod.kin kD ?_ st (by rfl)) db)
  rw [st]
  refine Calls.spliced_cons (thn (hw.run pins s σ H _ I wish) fun u s1 got => Calls.spliced_nil ?_)
  obtain ⟨v, J, I1, _, q1⟩ := got
  refine ⟨I1.kIn, ?_⟩
  obtain ⟨_, _, _, _, _, _, _, _, _, _, _, _, _, _, _, _, _, a1, a2, a3, a4⟩ := exc_obj I1.kIn ei
  exact wpAny_call_exc_subT F a4 a1 a2 a3 (fun h' e made => L2N.mk_of I1 made rs q1 (I1.hok.gone made.new)) (Nat.le_trans (by decide : 1 ≤ 1000) (by decide))

/-! ### own defs, ready to be called -/
structure Dn (Pg : Program) (w : World) (K : PySem.W.Frag) (mg : Str → Option Value) (base : Heap) (k : Nat) (x : Str) (ps : List Str) (sp : Sp) : Prop where
  ex : ∃ f fd, FnOk Pg w K mg base (L2N.CX Pg w) k f fd ps sp ∧ mg x = some (.ref f) ∧ PySem.W.keepIn K (.ref f) = true ∧ Binds K fd ps []
section
variable {X : Cx} {k : Nat} {x : Str} {ps : List Str} {sp : Sp} {p pos : Pos} {e : Expr} {es : List Expr} {t : TA}
theorem pe_fnE {E : XK} (D : Dn X.prog X.w X.K X.mg X.base k x ps sp) (hr : Room k X.A) (hx : Passes (L2N.CX X.prog X.w) X E) (ha : PA X (e :: es) t) (hg : Gl X x := by rfl)
    (hdb : (x == ("__debug__" : Str)) = false := by decide) (he : starEach (e :: es) X.env = (false, eval e X.env) :: starEach es X.env := by rfl) (hpl : (backTo pos (starEach es X.env)).any (·.1) = false := by rfl) :
    PE X (.Call (.Name x p) (e :: es) [] pos) (tCall sp [] E t) := by
  obtain ⟨f, fd, F, hm, hk, hb⟩ := D.ex
  exact pe_call F hr hg hm hk hb .nil hx ha hdb he hpl
/-- a def that raises nothing that is wished -/
theorem pe_fn (D : Dn X.prog X.w X.K X.mg X.base k x ps sp) (hr : Room k X.A) (ha : PA X (e :: es) t) (hg : Gl X x := by rfl)
    (hdb : (x == ("__debug__" : Str)) = false := by decide) (he : starEach (e :: es) X.env = (false, eval e X.env) :: starEach es X.env := by rfl) (hpl : (backTo pos (starEach es X.env)).any (·.1) = false := by rfl) :
    PE X (.Call (.Name x p) (e :: es) [] pos) (tCall sp [] E0 t) := pe_fnE D hr passLN ha hg hdb he hpl
/-- in a try's body -/
theorem pe_fnS {E : L2.St → XK} (D : Dn X.prog X.w X.K X.mg X.base k x ps sp) (hr : Room k X.A) (hx : ∀ σ, PassesAt (L2N.CX X.prog X.w) X σ (E σ)) (ha : PA X (e :: es) t) (hg : Gl X x := by rfl)
    (hdb : (x == ("__debug__" : Str)) = false := by decide) (he : starEach (e :: es) X.env = (false, eval e X.env) :: starEach es X.env := by rfl) (hpl : (backTo pos (starEach es X.env)).any (·.1) = false := by rfl) :
    PE X (.Call (.Name x p) (e :: es) [] pos) (tCallS sp E t) := by
  obtain ⟨f, fd, F, hm, hk, hb⟩ := D.ex
  exact pe_callS F hr hg hm hk hb hx ha hdb he hpl
end

/-! ### own error classes -/
structure ExK (K : PySem.W.Frag) (mg : Str → Option Value) (x : Str) (C : Addr) (bm : List Value) : Prop where
  g : mg x = some (.ref C)
  k : PySem.W.keepIn K (.ref C) = true
  x : PySem.W.excIn K C bm "ValueError.__new__" = true
  b : PySem.W.subIn K (.ref C) (.type "BaseException") = some true
  t : PySem.W.typeIn K (.ref C) = some (.type "type")
/-- isinstance(e, c) in a suite -/
def rIsG (K : PySem.W.Frag) (a : Addr) (cls : Value) (d : Option Addr) : List V → Hp → VK → Prop := fun xs H Q => ∃ (D : Addr) (c : V) (cv : Value) (b : Bool), xs = [.ref a, c] ∧ cls = .ref D ∧ d = none ∧ ExcC K D ∧ (∀ u, RelV c u → u = cv) ∧ PySem.W.kitOne K (.ref D) cv = some b ∧ Q (.bl b) H
theorem call_isG {X : Cx} {a : Addr} {cls : Value} {d : Option Addr} {oe : Obj} {pn : List (Addr × Obj)} (hz : Zc cls d oe) (hf : ∃ vs, oe.data = .fields vs) : CallR (X.suite a ((a, oe) :: pn)) (.builtin "isinstance") (rIsG X.K a cls d) := by
  intro pins s σ H xs us Q I r h
  obtain ⟨D, c, cv, b, e1, e2, e3, C, hcv, e, q⟩ := h
  subst e2 e3
  exact call_isE C hz hf pins s σ H xs us Q I r ⟨c, cv, b, e1, hcv, e, q⟩

/-! ### heaps -/
theorem same_new {H : Hp} {p : Addr} {o : HO} (h : H p = none) : Same H (upd H p o) := fun b u e => by
  rw [upd_ne (ne_of_none e h)]; exact e
theorem same_mut {H H' : Hp} {p : Addr} {o : HO} (s : Same H H') (h : H p = none) : Same H (upd H' p o) := fun b u e => by
  rw [upd_ne (ne_of_none e h)]; exact s b u e
theorem same_t {K : PySem.W.Frag} {H H' : Hp} {a : Addr} {xs : List V} (e : Same H H') (h : SqT K H a xs) : SqT K H' a xs := by
  rcases h with (h | ⟨o, h⟩) | h
  · exact .inl (.inl (e _ _ h))
  · exact .inl (.inr ⟨o, e _ _ h⟩)
  · exact .inr h
mutual
theorem Dp.same {K : PySem.W.Frag} {H H' : Hp} (s : Same H H') : ∀ {d : PyData} {v : V}, Dp K H v d → Dp K H' v d
  | _, _, .non => .non
  | _, _, .bl b => .bl b
  | _, _, .int i => .int i
  | _, _, .str x => .str x
  | _, _, .lst h ha => .lst (s.seq h) (DpAll.same s ha)
  | _, _, .tup h ha => .tup (same_t s h) (DpAll.same s ha)
theorem DpAll.same {K : PySem.W.Frag} {H H' : Hp} (s : Same H H') : ∀ {ds : List PyData} {vs : List V}, DpAll K H vs ds → DpAll K H' vs ds
  | _, _, .nil => .nil
  | _, _, .cons h ha => .cons (Dp.same s h) (DpAll.same s ha)
end
theorem szl {n : Nat} (h : n ≤ 100000) : n ≤ sizeLine := Nat.le_trans h (by decide)
theorem szlt {n : Nat} (h : n < 100000) : n < sizeLine := Nat.lt_of_lt_of_le h (by decide)
end Fb

namespace Fb
open PySem PySem.Spec PyProof.Rows L2
/-! ### the law's own call: the tables are shut -/
def shut (Ps : List Addr) (H : Hp) : Hp := fun b => if b ∈ Ps then some (TabO b) else H b
theorem shut_in {Ps : List Addr} {H : Hp} {b : Addr} (h : b ∈ Ps) : shut Ps H b = some (TabO b) := if_pos h
theorem shut_out {Ps : List Addr} {H : Hp} {b : Addr} (h : b ∉ Ps) : shut Ps H b = H b := if_neg h
def reopen (Ps : List Addr) (h : Heap) (H : Hp) : Hp := fun b => if b ∈ Ps then (match h.get? b with | some o => (match o.data with | .fields ps => some (.tbl ps) | _ => H b) | none => H b) else H b
theorem reopen_in {Ps : List Addr} {h : Heap} {H : Hp} {b : Addr} {ps : Array Value} (hb : b ∈ Ps) (e : h.get? b = some { cls := .none, data := .fields ps }) : reopen Ps h H b = some (.tbl ps) := by
  unfold reopen
  rw [if_pos hb, e]
theorem reopen_out {Ps : List Addr} {h : Heap} {H : Hp} {b : Addr} (hb : b ∉ Ps) : reopen Ps h H b = H b := if_neg hb
theorem FnOk.tabs {Pg : Program} {w : World} {K : PySem.W.Frag} {mg : Str → Option Value} {base : Heap} {k : Nat} {f : Addr} {fd : FuncData} {ps : List Str} {sp : Sp} {Ps : List Addr} (F : FnOk Pg w K mg base (L2N.CX Pg w) k f fd ps sp) :
    FnOk Pg w K mg base (L2N.CX Pg w) k f fd ps (fun vs H Q E => (∀ p ∈ Ps, H p = some (.tbl #[])) ∧ sp vs (shut Ps H) (fun v H' => (∀ p ∈ Ps, H' p = some (TabO p)) ∧ ∀ H2, Q v H2) (fun _ _ _ => False)) := by
  refine ⟨fun vs H Q E q => F.len _ _ _ _ q.2, fun A outer s H args us vs Q E hr he hb hv hs => ?_⟩
  obtain ⟨hT, hs⟩ := hs
  have tabs : ∀ p ∈ Ps, s.heap.get? p = some { cls := .none, data := .fields #[] } := fun p hp => he.hok p _ (hT p hp)
  have nb : ∀ b u, H b = some u → (∀ q, u ≠ .tbl q) → b ∉ Ps := fun b u e h1 hp => by
    rw [hT b hp] at e
    cases e
    exact h1 _ rfl
  have nn : ∀ b, H b = none → b ∉ Ps := fun b e hp => by rw [hT b hp] at e; cases e
  have he' : Env0 Pg w K mg base A outer s (shut Ps H) := by
    refine ⟨he.frames, he.mod, fun b o e => ⟨(he.bs b o e).1, by rw [shut_out (nn b (he.bs b o e).2)]; exact (he.bs b o e).2⟩, he.bsz, he.funs, fun b hb => by rw [shut_out (nn b (he.frf b hb))]; exact he.frf b hb, fun a o e => ?_, he.bare⟩
    by_cases ha : a ∈ Ps
    · rw [shut_in ha] at e
      cases e
      exact tabO_ok (tabs a ha) trivial
    · rw [shut_out ha] at e
      refine (he.hok a o e).stay (fun d v _ q => q) (fun d q => ?_) fun d xs q => ?_
      · rw [shut_out (nb d _ q fun _ z => nomatch z)]; exact q
      · rw [shut_out (nb d _ q fun _ z => nomatch z)]; exact q
  refine codeAny_mono (F.run A outer s (shut Ps H) args us vs _ _ hr he' hb hv hs) fun r s' h => ?_
  cases r with
  | error e =>
    obtain ⟨_, _, _, _, _, _, _, _, _, _, _, _, z⟩ := h
    exact z.elim
  | ok fl =>
    cases fl with
    | next => exact False.elim h
    | brk => exact False.elim h
    | cont => exact False.elim h
    | ret u =>
      obtain ⟨v, H', os, bare, un, hok, r, hP, q⟩ := h
      have tb : ∀ p ∈ Ps, ∃ ps : Array Value, s'.heap.get? p = some { cls := .none, data := .fields ps } := fun p hp => by
        obtain ⟨⟨qs, e, _⟩, _, _⟩ := hok p _ (hP p hp)
        exact ⟨qs, e⟩
      have n2 : ∀ b u, H' b = some u → (∀ a, u ≠ TabO a) → b ∉ Ps := fun b u e h1 hp => by
        rw [hP b hp] at e
        cases e
        exact h1 _ rfl
      refine ⟨v, reopen Ps s'.heap H', os, bare, ⟨fun b o e n => un.keep b o e (by rw [shut_out (nn b n)]; exact n), fun b o e n => un.slot b o e (by rw [shut_out (nn b n)]; exact n), fun b o e n hx => ?_, un.there, fun b xs e => ?_, fun b o u e => ?_, fun b qs e => ?_⟩, fun a o e => ?_, r, q _⟩
      · rw [reopen_out (nn b n)]
        exact un.free b o e (by rw [shut_out (nn b n)]; exact n) hx
      · have h1 := nb b _ e fun _ z => nomatch z
        rw [reopen_out h1]
        exact un.tups b xs (by rw [shut_out h1]; exact e)
      · have h1 := nb b _ e fun _ z => nomatch z
        rw [reopen_out h1]
        exact un.frzs b o u (by rw [shut_out h1]; exact e)
      · by_cases hb : b ∈ Ps
        · rw [hT b hb] at e
          cases e
          obtain ⟨ps, e2⟩ := tb b hb
          exact ⟨ps, by rw [reopen_in hb e2]; simp⟩
        · rw [reopen_out hb]
          exact un.tbls b qs (by rw [shut_out hb]; exact e)
      · by_cases ha : a ∈ Ps
        · obtain ⟨ps, e2⟩ := tb a ha
          rw [reopen_in ha e2] at e
          cases e
          exact e2
        · rw [reopen_out ha] at e
          refine (hok a o e).stay (fun d v _ q => q) (fun d q => ?_) fun d xs q => ?_
          · rw [reopen_out (n2 d _ q fun _ z => nomatch z)]; exact q
          · rw [reopen_out (n2 d _ q fun _ z => nomatch z)]; exact q

/-! ### the end -/
/-- what the ground says of a def's table -/
def TabN (mg : Str → Option Value) (h : Heap) (x : Str) : Prop := ∃ (a c P : Addr) (o : Obj) (fd : FuncData), mg x = some (.ref a) ∧ h.get? a = some o ∧ o.data = .func fd ∧ fd.code = .ref c ∧ PySem.W.CodeHd h c P ∧ h.get? P = some { cls := .none, data := .fields #[] } ∧ ∃ oc vc, h.get? c = some oc ∧ oc.data = .fields vc ∧ vc[11]? = some (.ref P)
/-- what is to be shown of the law at the head's heap -/
def LawT (l : PySem.W.OpenLaw) (w : World) (K : PySem.W.Frag) (k n : Nat) (x : Str) (mg : Str → Option Value) (fa : Addr) (h : Heap) : Prop :=
  ∃ (fd : FuncData) (cs : List (Addr × Addr)) (sp : Sp), (∀ p ∈ cs, h.get? p.2 = some { cls := .none, data := .fields #[] }) ∧ (∀ p ∈ cs, K.lookup p.2 = none) ∧ (∀ p ∈ cs, PySem.W.CodeHd h p.1 p.2) ∧ (∀ (s : Shared) (u : Value), BindsTo s fd ⟨[u], []⟩ [(x, u)]) ∧
    (∀ (H : Hp) (a : Addr) (ns : List Int), ns.length ≤ n → (∀ z ∈ ns, Builtin.Int.intBits z ≤ 1048576) → (∀ p ∈ cs, H p.2 = some (TabO p.2)) → SqL K H a (ns.map V.int) → sp [.ref a] H (fun v H' => (∀ p ∈ cs, H' p.2 = some (TabO p.2)) ∧ v = .bl true) fun _ _ _ => False) ∧
    ∀ base : Heap, K.In base → base.Ns mainGlobals mg → (∀ p ∈ cs, GxR.TabB base mg p.1 p.2) → FnOk l.prog w K mg base (L2N.CX l.prog w) k fa fd [x] sp
theorem walk_tab {l : PySem.W.OpenLaw} {n k : Nat} {q : Program} {loose : List Str} {XP : (Str → Option Value) → Heap → Prop} {YP : World → Heap → Prop} {d : DefRec} {K : Params → PySem.W.Frag} {x : Str} (gs : List Str)
    (hn : l.most = some n) (hn2 : n ≤ sizeLine) (hdf : d.params.defaults = []) (hr : Room k callerA) (hrec : ∀ g ∈ gs, ((recsOf q).any fun e => e.name == g) = true) (hY : ∀ (w : World) (h : Heap), YP w h → (K w.params).In h)
    (F : ∀ (w : World) (mg : Str → Option Value) (fa : Addr) (h : Heap), YP w h → (K w.params).In h → h.Ns mainGlobals mg → mg d.name = some (.ref fa) → (∀ g ∈ gs, TabN mg h g) → LawT l w (K w.params) k n x mg fa h) :
    PySem.W.WalkO q loose XP YP l.row.toRowW d [] (fun f vs => PySem.call f vs) := by
  refine Att.attach_callB hn hdf fun w s₀ s₁ mg mb fa o pm cd doc a vs ns G Y ho hd hcd hmg hobj hints hlen hbits hg => ?_
  have KX := hY w _ Y
  have tabs : ∀ g ∈ gs, TabN mg s₁.heap g := fun g hgm => by
    obtain ⟨dL, hm, hn1⟩ := List.any_eq_true.mp (hrec g hgm)
    have hn2 : dL.name = g := beq_iff_eq.mp hn1
    obtain ⟨a', o', fd', c', P', h1, h2, h3, h4, h5, h6⟩ := G.T.tab dL hm
    rw [hn2] at h1
    obtain ⟨⟨oc, vc, e1, e2, e3, e4⟩, hP⟩ := id h6
    exact ⟨a', c', P', o', fd', h1, h2, h3, h4, PySem.W.CodeHd.of h5 h6, hP, oc, vc, e1, e3, e4⟩
  obtain ⟨fd, cs, sp, hT, nT, C, hb, hsp, hF⟩ := F w mg fa _ Y KX G.T.g hmg tabs
  refine LamX.law_callTs (CX := L2N.CX l.prog w) (cs := cs) KX G.T.g G.T.b G.T.builtins G.T.nolimit hg hT nT C G.T.bmain hobj hints (Nat.le_trans hlen hn2) hr (fun base hK hN hB => FnOk.tabs (Ps := cs.map (·.2)) (hF base hK hN fun p hp => ⟨(hB p hp).code, (hB p hp).bm, (hB p hp).gP⟩)) hb (fun H hH hS => ⟨?ga, ?gb⟩) fun H e s' h => ?gc
  case ga =>
    intro p hp
    obtain ⟨y, hy, e⟩ := List.mem_map.mp hp
    rw [← e]; exact hH y hy
  case gb =>
    have na : a ∉ cs.map (·.2) := fun z => by
      obtain ⟨y, hy, e⟩ := List.mem_map.mp z
      have q := hT y hy
      rw [e, hobj] at q
      have z' : Data.seq vs.toArray _ = Data.fields #[] := congrArg Obj.data (Option.some.inj q)
      cases z'
    have hS' : SqL (K w.params) (shut (cs.map (·.2)) H) a (ns.map V.int) := by
      rcases hS with (z | ⟨o, z⟩) | z
      · exact .inl (.inl (by rw [shut_out na]; exact z))
      · exact .inl (.inr ⟨o, by rw [shut_out na]; exact z⟩)
      · exact .inr z
    have r := hsp (shut (cs.map (·.2)) H) a ns hlen hbits (fun p hp => shut_in (List.mem_map.mpr ⟨p, hp, rfl⟩)) hS'
    refine cast (congrArg (fun Q => sp [.ref a] (shut (cs.map (·.2)) H) Q fun _ _ _ => False) ?_) r
    funext v H'
    refine propext ⟨fun ⟨h1, h2⟩ => ⟨fun p hp => ?_, fun _ => h2⟩, fun ⟨h1, h2⟩ => ⟨fun p hp => h1 _ (List.mem_map.mpr ⟨p, hp, rfl⟩), h2 H'⟩⟩
    obtain ⟨y, hy, e⟩ := List.mem_map.mp hp
    rw [← e]; exact h1 y hy
  case gc =>
    obtain ⟨_, _, _, _, _, _, _, _, _, _, _, _, z⟩ := h
    exact z
end Fb
namespace Fb
open PySem L2
theorem ifD {p A B : Prop} [Decidable p] (h1 : p → A) (h2 : ¬ p → B) : if decide p = true then A else B := by
  by_cases h : p
  · rw [if_pos (decide_eq_true h)]; exact h1 h
  · rw [if_neg (by simp [h])]; exact h2 h
theorem ifB {c : Bool} {A B : Prop} (h1 : c = true → A) (h2 : c = false → B) : if c = true then A else B := by
  cases c with
  | true => rw [if_pos rfl]; exact h1 rfl
  | false => rw [if_neg Bool.false_ne_true]; exact h2 rfl
theorem ifP {p A B : Prop} [Decidable p] (h : p) (a : A) : if decide p = true then A else B := by rw [if_pos (decide_eq_true h)]; exact a
theorem ifN {p A B : Prop} [Decidable p] (h : ¬ p) (b : B) : if decide p = true then A else B := by rw [if_neg (by simp [h])]; exact b
theorem atI_map {ns : List Int} {j : Int} (h0 : 0 ≤ j) (h1 : j.toNat < ns.length) : atI (ns.map V.int) j = some (.int (ns.getD j.toNat 0)) := by
  have h2 : ixN (ns.map V.int).length j = some j.toNat := by
    unfold ixN
    rw [List.length_map, if_pos h0, if_pos (by omega)]
  unfold atI
  rw [h2]
  show (ns.map V.int)[j.toNat]? = _
  rw [List.getElem?_map, List.getElem?_eq_getElem h1]
  simp [List.getD, List.getElem?_eq_getElem h1]
theorem atI_of {α : Type} {xs : List α} {j : Int} {v : α} (h0 : 0 ≤ j) (h : xs[j.toNat]? = some v) : atI xs j = some v := by
  have hl : j.toNat < xs.length := (List.getElem?_eq_some_iff.mp h).1
  have h2 : ixN xs.length j = some j.toNat := by
    unfold ixN
    rw [if_pos h0, if_pos (by omega)]
  unfold atI
  rw [h2]
  exact h
end Fb

namespace Fb
open PySem PySem.Spec PyProof.Rows L2
/-! ### texts by their signs -/
/-- a text of at most n signs, each of them one that the model knows -/
def okS (n : Nat) (z : Str) : Prop := z.length ≤ n ∧ ∀ c ∈ z.cps.toList, c < 1114112
theorem len_tl (z : Str) : z.length = z.cps.toList.length := by simp [Str.length]
theorem okS.mono {n m : Nat} {z : Str} (h : okS n z) (hm : n ≤ m) : okS m z := ⟨Nat.le_trans h.1 hm, h.2⟩
theorem cps_app (a b : Str) : (a ++ b).cps.toList = a.cps.toList ++ b.cps.toList := by
  show (a.cps ++ b.cps).toList = _
  simp
theorem len_app (a b : Str) : (a ++ b).length = a.length + b.length := by
  rw [len_tl, cps_app, List.length_append, ← len_tl, ← len_tl]
theorem okS.app {n m : Nat} {a b : Str} (h : okS n a) (g : okS m b) : okS (n + m) (a ++ b) := by
  refine ⟨by rw [len_app]; exact Nat.add_le_add h.1 g.1, fun c hc => ?_⟩
  rw [cps_app] at hc
  exact (List.mem_append.mp hc).elim (h.2 c) (g.2 c)
theorem cut_len (z : Str) (lo hi : Option Int) : (cutS z lo hi).length ≤ z.length := by
  rw [len_tl, len_tl]
  unfold cutS
  show (_ : List Nat).length ≤ _
  rw [List.length_take, List.length_drop]
  omega
theorem okS.cut {n : Nat} {z : Str} (h : okS n z) (lo hi : Option Int) : okS n (cutS z lo hi) := by
  refine ⟨Nat.le_trans (cut_len z lo hi) h.1, fun c hc => h.2 c ?_⟩
  have h1 : c ∈ ((z.cps.toList.drop (HT.sIx z.length 0 lo)).take (HT.sIx z.length z.length hi - HT.sIx z.length 0 lo)) := hc
  exact List.mem_of_mem_drop (List.mem_of_mem_take h1)
/-- cut at most k signs from the front -/
theorem cut_to (z : Str) (k : Nat) : (cutS z none (some (k : Int))).length ≤ k := by
  rw [len_tl]
  unfold cutS
  show (_ : List Nat).length ≤ _
  rw [List.length_take, HT.sIx_none, HT.sIx_nat]
  omega
theorem okS.one {c : Nat} (h : c < 1114112) : okS 1 ⟨#[c]⟩ := by
  refine ⟨Nat.le_refl _, fun d hd => ?_⟩
  have e : d = c := by simpa using hd
  rw [e]; exact h
theorem mem_rep {x : Array Nat} {c : Nat} : ∀ (n : Nat) (acc : Array Nat), c ∈ ((List.replicate n x).foldl (· ++ ·) acc).toList → c ∈ acc.toList ∨ c ∈ x.toList
  | 0, acc, h => Or.inl h
  | n + 1, acc, h => by
    rw [List.replicate_succ, List.foldl_cons] at h
    rcases mem_rep n (acc ++ x) h with g | g
    · rw [Array.toList_append] at g
      exact (List.mem_append.mp g)
    · exact Or.inr g
theorem okS.mul {n : Nat} {z : Str} {k : Int} (h : okS n z) (h0 : 0 ≤ k) : okS (n * k.toNat) (Txt.mul z k) := by
  refine ⟨by rw [mul_length z k h0]; exact Nat.mul_le_mul_right _ h.1, fun c hc => h.2 c ?_⟩
  unfold Txt.mul at hc
  split at hc
  · simp [Str.empty] at hc
  · split at hc
    · exact hc
    · rcases mem_rep _ _ hc with g | g
      · simp at g
      · exact g
theorem okS_data {n : Nat} {z : Str} (h : okS n z) : PyData.strOk z = true := by
  unfold PyData.strOk
  rw [Array.all_eq_true]
  intro i hi
  exact decide_eq_true (h.2 _ (by rw [← Array.getElem_toList]; exact List.getElem_mem _))
theorem joinL_nil : ∀ parts : List (List Nat), TL.joinL [] parts = parts.flatten
  | [] => rfl
  | [p] => by simp [TL.joinL]
  | p :: q :: r => by
    show p ++ ([] ++ TL.joinL [] (q :: r)) = _
    rw [joinL_nil (q :: r)]
    simp
theorem join_tl (y : Str) (hy : y.cps.toList = []) (ys : List Str) : (Txt.join y ys).cps.toList = (ys.map TL.tl).flatten := by
  rw [TL.join_eq]
  show TL.tl _ = _
  rw [TL.tl_join, show TL.tl y = [] from hy, joinL_nil]
theorem okS.join {y : Str} (hy : y.cps.toList = []) {ys : List Str} {n : Nat} (hn : ys.length ≤ n) (h : ∀ z ∈ ys, okS 1 z) : okS n (Txt.join y ys) := by
  refine ⟨?_, fun c hc => ?_⟩
  · rw [len_tl, join_tl y hy]
    refine Nat.le_trans ?_ hn
    clear hn
    induction ys with
    | nil => simp
    | cons z r ih =>
      have h1 := (h z List.mem_cons_self).1
      have h2 := ih fun q hq => h q (List.mem_cons_of_mem _ hq)
      rw [len_tl] at h1
      simp only [List.map_cons, List.flatten_cons, List.length_append, List.length_cons]
      show z.cps.toList.length + _ ≤ _
      omega
  · rw [join_tl y hy] at hc
    obtain ⟨l, hl, hc⟩ := List.mem_flatten.mp hc
    obtain ⟨z, hz, rfl⟩ := List.mem_map.mp hl
    exact (h z hz).2 c hc
theorem sum_ones {ys : List Str} (h : ∀ z ∈ ys, okS 1 z) : (ys.map (·.length)).sum ≤ ys.length := by
  induction ys with
  | nil => simp
  | cons z r ih =>
    have h1 := (h z List.mem_cons_self).1
    have h2 := ih fun q hq => h q (List.mem_cons_of_mem _ hq)
    simp only [List.map_cons, List.sum_cons, List.length_cons]
    omega

/-! ### comprehensions over a range, over a list: each turn leaves what stood; R: what is known of the i-th item, for good (D itself, the new list, grows) -/
/-- what stood anywhere but at D stands -/
def SameB (D : Addr) (H H' : Hp) : Prop := ∀ b o, b ≠ D → H b = some o → H' b = some o
theorem Same.but {D : Addr} {H H' : Hp} (s : Same H H') : SameB D H H' := fun b o _ e => s b o e
section
variable {K : PySem.W.Frag} {te : TE} {vs : List Nat} {σ : L2.St} {H1 : Hp} {D : Addr} {Qd : Hp → Prop}
theorem yes_go {Q : VK} {N : Hp → Prop} {H : Hp} (h : te σ H Q) : tYes σ H fun b H3 => if b = true then te σ H3 Q else N H3 := by
  show (if true = true then te σ H Q else N H)
  exact iteT h
theorem lc_step {R : Nat → V → Hp → Prop} {i : Nat} {ys : List V} {v : V} {H H' : Hp} (hR : ∀ i v H H', SameB D H H' → R i v H → R i v H') (hl : ys.length = i) (s2 : Same H H') (hr : ∀ k u, ys[k]? = some u → R k u H) (r : R i v H') :
    ∀ k u, (ys ++ [v])[k]? = some u → R k u (upd H' D (.lst (ys ++ [v]))) := fun k u e => by
  have hu : SameB D H' (upd H' D (.lst (ys ++ [v]))) := fun b o nb e => by rw [upd_ne nb]; exact e
  by_cases hk : k < ys.length
  · rw [List.getElem?_append_left hk] at e
    exact hR _ _ _ _ hu (hR _ _ _ _ (Same.but s2) (hr k u e))
  · have hk2 : k = i := by
      have h3 := (List.getElem?_eq_some_iff.mp e).1
      rw [List.length_append] at h3
      simp at h3
      omega
    subst hk2
    rw [List.getElem?_append_right (by omega), hl, Nat.sub_self] at e
    have e2 : v = u := by simpa using e
    subst e2
    exact hR _ _ _ _ hu r
theorem lc_rangeR {lo : Int} {n j : Nat} (R : Nat → V → Hp → Prop) (hR : ∀ i v H H', SameB D H H' → R i v H → R i v H') (hD : H1 D = none) (hn : n ≤ 100000) (hw : ∀ v, wipe ((wipe σ vs).set j (some v)) vs = wipe σ vs)
    (hs : ∀ i H acc, i < n → Same H1 H → H D = some (.lst acc) → ∀ Q : VK, (∀ v H', Same H H' → R i v H' → Q v H') → te ((wipe σ vs).set j (some (.int (lo + i)))) H Q)
    (hd : ∀ H ys, Same H1 H → H D = some (.lst ys) → ys.length = n → (∀ i v, ys[i]? = some v → R i v H) → Qd H) :
    ∃ W : Nat → Nat → Hp → Prop, (∃ m, W 0 m (upd H1 D (.lst []))) ∧ ∀ i m H, W i m H →
      ((Itr lo n).stop i H ∧ Qd H) ∨ ((Itr lo n).go i H ∧ ∃ Nx : Hp → Prop, (∀ H', Nx H' → ∃ m', m' < m ∧ W (i + 1) m' H') ∧ ∀ x H', (Itr lo n).yld i H x H' → (gName j) x (wipe σ vs) H' fun σ2 H2 => wipe σ2 vs = wipe σ vs ∧ tYes σ2 H2 fun b H3 =>
        if b = true then te σ2 H3 fun y H4 => ∃ acc, H4 D = some (.lst acc) ∧ acc.length < sizeLine ∧ Nx (upd H4 D (.lst (acc ++ [y]))) else Nx H3) := by
  refine lc_range (fun i H => ∃ ys, Same H1 H ∧ H D = some (.lst ys) ∧ ys.length = i ∧ ∀ k v, ys[k]? = some v → R k v H) ⟨[], same_new hD, upd_same, rfl, fun k v e => by simp at e⟩ ?_ ?_
  · rintro i H hi ⟨ys, s1, hDl, hl, hr⟩
    refine ⟨hw _, ?_⟩
    refine yes_go ?_
    exact hs i H ys hi s1 hDl _ fun v H' s2 r => ⟨ys, s2 _ _ hDl, szlt (by omega), ys ++ [v], same_mut (Same.trans s1 s2) hD, upd_same, by rw [List.length_append]; simp [hl], lc_step hR hl s2 hr r⟩
  · rintro H ⟨ys, s1, hDl, hl, hr⟩
    exact hd H ys s1 hDl hl hr
theorem lc_listR {a : Addr} {xs : List V} {j : Nat} (R : Nat → V → Hp → Prop) (hR : ∀ i v H H', SameB D H H' → R i v H → R i v H') (hD : H1 D = none) (hx : SqL K H1 a xs) (hn : xs.length ≤ 100000) (hw : ∀ v, wipe ((wipe σ vs).set j (some v)) vs = wipe σ vs)
    (hs : ∀ i x H acc, xs[i]? = some x → Same H1 H → H D = some (.lst acc) → ∀ Q : VK, (∀ v H', Same H H' → R i v H' → Q v H') → te ((wipe σ vs).set j (some x)) H Q)
    (hd : ∀ H ys, Same H1 H → H D = some (.lst ys) → ys.length = xs.length → (∀ i v, ys[i]? = some v → R i v H) → Qd H) :
    ∃ W : Nat → Nat → Hp → Prop, (∃ m, W 0 m (upd H1 D (.lst []))) ∧ ∀ i m H, W i m H →
      ((Itl K a).stop i H ∧ Qd H) ∨ ((Itl K a).go i H ∧ ∃ Nx : Hp → Prop, (∀ H', Nx H' → ∃ m', m' < m ∧ W (i + 1) m' H') ∧ ∀ x H', (Itl K a).yld i H x H' → (gName j) x (wipe σ vs) H' fun σ2 H2 => wipe σ2 vs = wipe σ vs ∧ tYes σ2 H2 fun b H3 =>
        if b = true then te σ2 H3 fun y H4 => ∃ acc, H4 D = some (.lst acc) ∧ acc.length < sizeLine ∧ Nx (upd H4 D (.lst (acc ++ [y]))) else Nx H3) := by
  refine lc_list (K := K) (a := a) (xs := xs) (fun i H => ∃ ys, Same H1 H ∧ H D = some (.lst ys) ∧ ys.length = i ∧ ∀ k v, ys[k]? = some v → R k v H) ⟨[], same_new hD, upd_same, rfl, fun k v e => by simp at e⟩ (fun i H _ ⟨_, s1, _⟩ => s1.seq hx) ?_ ?_
  · rintro i x H hi ⟨ys, s1, hDl, hl, hr⟩
    have hil := (List.getElem?_eq_some_iff.mp hi).1
    refine ⟨hw _, ?_⟩
    refine yes_go ?_
    exact hs i x H ys hi s1 hDl _ fun v H' s2 r => ⟨ys, s2 _ _ hDl, szlt (by omega), ys ++ [v], same_mut (Same.trans s1 s2) hD, upd_same, by rw [List.length_append]; simp [hl], lc_step hR hl s2 hr r⟩
  · rintro H ⟨ys, s1, hDl, hl, hr⟩
    exact hd H ys s1 hDl hl hr
end

/-! ### for k, x in enumerate(xs) -/
theorem for_enum {K : PySem.W.Frag} {a : Addr} {xs : List V} {g : TG} {tb : TS} {D : Ends} {σ : L2.St} {H : Hp} (Pv : Nat → L2.St → Hp → Prop) (h0 : Pv 0 σ H) (hl : ∀ i σ H, i ≤ xs.length → Pv i σ H → SqL K H a xs)
    (hs : ∀ i x σ H T, xs[i]? = some x → Pv i σ H → H T = none → g (.ref T) σ (upd H T (.tup [.int (i : Nat), x])) fun σ2 H2 => tb { D with nx := Pv (i + 1), ct := Pv (i + 1), bk := D.nx } σ2 H2) (hd : ∀ σ H, Pv xs.length σ H → D.nx σ H) :
    ∃ W : Nat → Nat → L2.St → Hp → Prop, (∃ m, W 0 m σ H) ∧ ∀ i m σ H, W i m σ H →
      ((Ite K a).stop i H ∧ D.nx σ H) ∨ ((Ite K a).go i H ∧ ∃ N : L2.St → Hp → Prop, (∀ σ' H', N σ' H' → ∃ m', m' < m ∧ W (i + 1) m' σ' H') ∧ ∀ x H', (Ite K a).yld i H x H' → g x σ H' fun σ2 H2 => tb { D with nx := N, ct := N, bk := D.nx } σ2 H2) := by
  refine ⟨fun i m σ H => m = xs.length - i ∧ i ≤ xs.length ∧ Pv i σ H, ⟨xs.length, by simp, Nat.zero_le _, h0⟩, ?_⟩
  rintro i m σ H ⟨rfl, hi, p⟩
  have q := hl i σ H hi p
  by_cases hlt : i < xs.length
  · refine .inr ⟨⟨xs, xs[i], q, by simp [hlt]⟩, Pv (i + 1), fun σ' H' p' => ⟨xs.length - (i + 1), by omega, rfl, hlt, p'⟩, fun x H' y => ?_⟩
    obtain ⟨T, x', rfl, hT, rfl, y⟩ := y
    exact hs i x' σ H T (y xs q) p hT
  · have e : i = xs.length := by omega
    subst e
    exact .inl ⟨⟨xs, q, Nat.le_refl _⟩, hd σ H p⟩

/-! ### the letters -/
abbrev abc : Str := Str.ofString "abcdefghijklmnopqrstuvwxyz"
theorem abc_list : abc.cps.toList = (List.range 26).map (· + 97) := by decide +kernel
theorem abc_len : abc.length ≤ sizeLine := by
  rw [len_tl, abc_list]
  simp
  decide
theorem abc_at {i : Int} (h0 : 0 ≤ i) (h1 : i < 26) : atI abc.cps.toList i = some (i.toNat + 97) := by
  refine atI_of h0 ?_
  rw [abc_list, List.getElem?_map, List.getElem?_range (by omega)]
  rfl
theorem abc_mem (c : Nat) : c ∈ abc.cps.toList ↔ 97 ≤ c ∧ c ≤ 122 := by
  rw [abc_list, List.mem_map]
  constructor
  · rintro ⟨k, hk, rfl⟩
    have := List.mem_range.mp hk
    omega
  · intro h
    exact ⟨c - 97, List.mem_range.mpr (by omega), by omega⟩
/-- signs written in the text -/
theorem at_small {z : Str} {n : Nat} {i : Int} (hn : z.cps.toList.length = n) (hc : z.cps.toList.all (· < 1114112) = true) (h0 : 0 ≤ i) (h1 : i < n) : ∃ c, atI z.cps.toList i = some c ∧ c < 1114112 := by
  have hl : i.toNat < z.cps.toList.length := by omega
  refine ⟨z.cps.toList[i.toNat], atI_of h0 (List.getElem?_eq_getElem hl), ?_⟩
  exact of_decide_eq_true (List.all_eq_true.mp hc _ (List.getElem_mem hl))
theorem mulSmall {i j : Int} (h0 : -1000000000000000000 ≤ i) (h1 : i ≤ 1000000000000000000) : CMul i j := .inl ⟨by omega, by omega⟩
theorem mulSmall2 {i j : Int} (h0 : -1000000000000000000 ≤ j) (h1 : j ≤ 1000000000000000000) : CMul i j := .inr ⟨by omega, by omega⟩
theorem atI_mem {xs : List V} {i : Int} (h0 : 0 ≤ i) (h1 : i < xs.length) : ∃ v, atI xs i = some v ∧ v ∈ xs := by
  have hl : i.toNat < xs.length := by omega
  exact ⟨xs[i.toNat], atI_of h0 (List.getElem?_eq_getElem hl), List.getElem_mem hl⟩
end Fb

namespace Fb
open PySem PySem.Spec PyProof.Rows L2
/-! ### a def whose code object is known -/
structure FunC (K : PySem.W.Frag) (x qual : Str) (st : Stmt) (f : Addr) (fd : FuncData) (c : Addr) : Prop where
  ex : ∃ (oc : Value) (od : Option Addr) (kV doc pm : Value) (an : Option Addr) (ct : Value) (osl : Array (Option Value)),
    fd = PySem.W.fnOf x qual (defArgs st) (defBody st) (defScope st) .none kV doc pm an (.ref c) ct ∧ K.lookup f = some ⟨oc, od, .func fd, osl⟩ ∧ PySem.W.codeIn K (.ref c) qual = true
section
variable {P : Program} {w : World} {K : PySem.W.Frag} {mg : Str → Option Value} {base : Heap}
theorem FunC.okX {x qual : Str} {st : Stmt} {f c : Addr} {fd : FuncData} {N ps : List Str} {k : Nat} {sp : Sp} (F : FunC K x qual st f fd c) (S : FnScope N ps (defScope st)) (len : ∀ vs H Q E, sp vs H Q E → vs.length = ps.length)
    (hbody : ∀ (A : Around) (outer : List Env) (s : Shared) (H : Hp) (vs : List V) (Q : VK) (E : XK), Room k (A.deeper (envOfC qual (defScope st) s.heap.objs.size f (.ref c))) → sp vs H Q E →
      ∃ t, PSs (cxOf (L2N.CX P w) P w K mg base N qual (defScope st) f (.ref c) A outer s H E) (defBody st) t ∧ t { nx := fun _ H' => Q .non H', rt := Q } (start N vs) H) : FnOk P w K mg base (L2N.CX P w) (k + 1) f fd ps sp := by
  obtain ⟨oc, od, kV, doc, pm, an, ct, osl, rfl, lk, hcd⟩ := F.ex
  exact fn_of lk hcd S len fun A outer s H vs Q E hr hsp => hbody A outer s H vs Q E hr hsp
end
/-! ### flat data: None, truth values, numbers, texts -/
def dat : V → PyData
  | .non => .none
  | .bl b => .bool b
  | .int i => .int i
  | .str z => .str z
  | _ => .none
def flat (v : V) : Prop := v = .non ∨ (∃ b, v = .bl b) ∨ (∃ i, v = .int i) ∨ ∃ z, v = .str z ∧ PyData.strOk z = true
theorem dp_flat {K : PySem.W.Frag} {H : Hp} {v : V} (h : flat v) : Dp K H v (dat v) := by
  rcases h with rfl | ⟨b, rfl⟩ | ⟨i, rfl⟩ | ⟨z, rfl, _⟩
  · exact .non
  · exact .bl b
  · exact .int i
  · exact .str z
theorem dpAll_flat {K : PySem.W.Frag} {H : Hp} : ∀ {xs : List V}, (∀ v ∈ xs, flat v) → DpAll K H xs (xs.map dat)
  | [], _ => .nil
  | v :: r, h => .cons (dp_flat (h v List.mem_cons_self)) (dpAll_flat fun u hu => h u (List.mem_cons_of_mem _ hu))
theorem lay_flat {v : V} (h : flat v) : PyData.canLay0 (dat v) = true ∧ PyData.depth (dat v) = 0 := by
  rcases h with rfl | ⟨b, rfl⟩ | ⟨i, rfl⟩ | ⟨z, rfl, hz⟩
  · exact ⟨by simp [dat, PyData.canLay0], by simp [dat, PyData.depth]⟩
  · exact ⟨by simp [dat, PyData.canLay0], by simp [dat, PyData.depth]⟩
  · exact ⟨by simp [dat, PyData.canLay0], by simp [dat, PyData.depth]⟩
  · exact ⟨by simpa [dat, PyData.canLay0] using hz, by simp [dat, PyData.depth]⟩
theorem layAll_flat : ∀ {xs : List V}, (∀ v ∈ xs, flat v) → PyData.canLayAll0 (xs.map dat) = true ∧ PyData.depthAll (xs.map dat) = 0
  | [], _ => ⟨by simp [PyData.canLayAll0], by simp [PyData.depthAll]⟩
  | v :: r, h => by
    have h1 := lay_flat (h v List.mem_cons_self)
    have h2 := layAll_flat (xs := r) fun u hu => h u (List.mem_cons_of_mem _ hu)
    refine ⟨?_, ?_⟩
    · rw [List.map_cons, PyData.canLayAll0, h1.1, h2.1]; rfl
    · rw [List.map_cons, PyData.depthAll, h1.2, h2.2]; rfl
theorem shaped_flat {v : V} (h : flat v) : SeqAt.shaped (dat v) = true := by
  have h1 := lay_flat h
  unfold SeqAt.shaped
  rw [h1.1, h1.2]; rfl
theorem shaped_list {xs : List V} (h : ∀ v ∈ xs, flat v) : SeqAt.shaped (.list (xs.map dat)) = true := by
  have h1 := layAll_flat h
  unfold SeqAt.shaped
  rw [PyData.canLay0, h1.1, PyData.depth, h1.2]; rfl
theorem shaped_tup {xs : List V} (h : ∀ v ∈ xs, flat v) : SeqAt.shaped (.tuple (xs.map dat)) = true := by
  have h1 := layAll_flat h
  unfold SeqAt.shaped
  rw [PyData.canLay0, h1.1, PyData.depth, h1.2]; rfl
theorem eqv_self {d : PyData} (h : SeqAt.shaped d = true) : PyData.eqv d d = true := SeqAt.eqv_refl d (SeqAt.canLay_of_shaped h)

/-! ### the signs of a text that pass a test -/
section
variable {K : PySem.W.Frag} {tt : TT} {te : TE} {vs : List Nat} {σ : L2.St} {H1 : Hp} {D : Addr} {Qd : Hp → Prop}
theorem filter_snoc {pf : Nat → Bool} {l : List Nat} {i c : Nat} (h : l[i]? = some c) : (l.take (i + 1)).filter pf = (l.take i).filter pf ++ (if pf c then [c] else []) := by
  rw [List.take_add_one, h]
  simp only [Option.toList_some, List.filter_append, List.filter_cons, List.filter_nil]
theorem lc_signs {x : Str} {j : Nat} (pf : Nat → Bool) (hD : H1 D = none) (hn : x.length ≤ 90000) (hw : ∀ v, wipe ((wipe σ vs).set j (some v)) vs = wipe σ vs)
    (ht : ∀ c H, Same H1 H → ∀ Q : Bool → Hp → Prop, Q (pf c) H → tt ((wipe σ vs).set j (some (.str ⟨#[c]⟩))) H Q) (he : ∀ c H, Same H1 H → ∀ Q : VK, Q (.str ⟨#[c]⟩) H → te ((wipe σ vs).set j (some (.str ⟨#[c]⟩))) H Q)
    (hd : ∀ H, Same H1 H → H D = some (.lst ((x.cps.toList.filter pf).map fun c => .str ⟨#[c]⟩)) → Qd H) :
    ∃ W : Nat → Nat → Hp → Prop, (∃ m, W 0 m (upd H1 D (.lst []))) ∧ ∀ i m H, W i m H →
      ((Its x).stop i H ∧ Qd H) ∨ ((Its x).go i H ∧ ∃ Nx : Hp → Prop, (∀ H', Nx H' → ∃ m', m' < m ∧ W (i + 1) m' H') ∧ ∀ y H', (Its x).yld i H y H' → (gName j) y (wipe σ vs) H' fun σ2 H2 => wipe σ2 vs = wipe σ vs ∧ tt σ2 H2 fun b H3 =>
        if b = true then te σ2 H3 fun y H4 => ∃ acc, H4 D = some (.lst acc) ∧ acc.length < sizeLine ∧ Nx (upd H4 D (.lst (acc ++ [y]))) else Nx H3) := by
  have ez : x.cps.size = x.cps.toList.length := by simp
  refine ⟨fun i m H => m = x.cps.size - i ∧ i ≤ x.cps.size ∧ Same H1 H ∧ H D = some (.lst (((x.cps.toList.take i).filter pf).map fun c => .str ⟨#[c]⟩)), ⟨x.cps.size, by simp, Nat.zero_le _, same_new hD, upd_same⟩, ?_⟩
  rintro i m H ⟨rfl, hi, s1, hl⟩
  by_cases hlt : i < x.cps.size
  · refine .inr ⟨hlt, fun H' => Same H1 H' ∧ H' D = some (.lst (((x.cps.toList.take (i + 1)).filter pf).map fun c => .str ⟨#[c]⟩)), fun H' p' => ⟨x.cps.size - (i + 1), by omega, rfl, hlt, p'⟩, fun y H' yl => ?_⟩
    obtain ⟨rfl, c, hc, rfl⟩ := yl
    have hc2 : x.cps.toList[i]? = some c := by rw [Array.getElem?_toList]; exact hc
    refine ⟨hw _, ?_⟩
    refine ht c H' s1 _ ?_
    have fs := filter_snoc (pf := pf) hc2
    cases hp : pf c with
    | true =>
      refine iteT ?_
      refine he c H' s1 _ ⟨_, hl, szlt ?_, same_mut s1 hD, ?_⟩
      · rw [List.length_map]
        have h1 := List.length_filter_le pf (x.cps.toList.take i)
        have h2 : (x.cps.toList.take i).length ≤ x.cps.toList.length := by rw [List.length_take]; omega
        have h3 : x.length = x.cps.toList.length := len_tl x
        omega
      · rw [upd_same, fs, hp]
        simp
    | false =>
      refine iteF ⟨s1, ?_⟩
      rw [fs, hp]
      simpa using hl
  · have e : i = x.cps.size := by omega
    subst e
    refine .inl ⟨Nat.le_refl _, hd H s1 ?_⟩
    rw [ez, List.take_length] at hl
    exact hl
end

/-! ### is it a place -/
def letter (c : Nat) : Bool := decide (97 ≤ c) && decide (c ≤ 122)
def isP : V → Bool
  | .str z => decide (1 ≤ z.length) && decide (z.length ≤ 12) && z.cps.toList.all letter
  | _ => false
theorem btw_letter (c : Nat) : (!decide (([c] : List Nat) < (Str.ofString "a").cps.toList) && !decide ((Str.ofString "z").cps.toList < ([c] : List Nat))) = letter c := by
  have e1 : (Str.ofString "a").cps.toList = [97] := by decide +kernel
  have e2 : (Str.ofString "z").cps.toList = [122] := by decide +kernel
  rw [e1, e2]
  have h1 : (([c] : List Nat) < [97]) ↔ c < 97 := by
    constructor
    · intro h
      cases h with
      | rel h => exact h
      | cons h => cases h
    · intro h; exact List.Lex.rel h
  have h2 : (([122] : List Nat) < [c]) ↔ 122 < c := by
    constructor
    · intro h
      cases h with
      | rel h => exact h
      | cons h => cases h
    · intro h; exact List.Lex.rel h
  unfold letter
  have g1 : decide (([c] : List Nat) < [97]) = decide (c < 97) := decide_eq_decide.mpr h1
  have g2 : decide (([122] : List Nat) < [c]) = decide (122 < c) := decide_eq_decide.mpr h2
  rw [g1, g2]
  by_cases a : c < 97 <;> by_cases b : 122 < c <;> simp [a, b] <;> omega
theorem notin_letter (c : Nat) : (!decide (c ∈ abc.cps.toList)) = !letter c := by
  unfold letter
  have g : decide (c ∈ abc.cps.toList) = decide (97 ≤ c ∧ c ≤ 122) := decide_eq_decide.mpr (abc_mem c)
  rw [g]
  by_cases a : 97 ≤ c <;> by_cases b : c ≤ 122 <;> simp [a, b]
theorem nofree_ex {names : List (Str × NameKind)} {cells : List (Str × Addr)} (h : ∀ y ∈ names, y.2 ≠ .free) : ∀ y ∈ names, y.2 = .free → ∃ c, cells.lookup y.1 = some c := fun y hy e => absurd e (h y hy)
theorem ifND {p A B : Prop} [Decidable p] (h1 : ¬ p → A) (h2 : p → B) : if (!decide p) = true then A else B := by
  by_cases h : p
  · rw [decide_eq_true h]; exact iteF (h2 h)
  · rw [decide_eq_false h]; exact iteT (h1 h)
theorem ifNB {b : Bool} {A B : Prop} (h1 : b = false → A) (h2 : b = true → B) : if (!b) = true then A else B := by
  cases b with
  | true => exact iteF (h2 rfl)
  | false => exact iteT (h1 rfl)
theorem ifT1 {A B : Prop} (h : A) : if (!false) = true then A else B := iteT h
theorem ifF1 {A B : Prop} (h : B) : if (!true) = true then A else B := iteF h
theorem isP_short {z : Str} (h : ¬ (1 : Int) ≤ (z.length : Int)) : isP (.str z) = false := by
  show (decide (1 ≤ z.length) && decide (z.length ≤ 12) && z.cps.toList.all letter) = _
  rw [decide_eq_false (show ¬ 1 ≤ z.length by omega)]; rfl
theorem isP_long {z : Str} (h : ¬ (z.length : Int) ≤ (12 : Int)) : isP (.str z) = false := by
  show (decide (1 ≤ z.length) && decide (z.length ≤ 12) && z.cps.toList.all letter) = _
  rw [decide_eq_false (show ¬ z.length ≤ 12 by omega)]; simp
theorem isP_mid {z : Str} (h1 : (1 : Int) ≤ (z.length : Int)) (h2 : (z.length : Int) ≤ (12 : Int)) : isP (.str z) = z.cps.toList.all letter := by
  show (decide (1 ≤ z.length) && decide (z.length ≤ 12) && z.cps.toList.all letter) = _
  rw [decide_eq_true (show 1 ≤ z.length by omega), decide_eq_true (show z.length ≤ 12 by omega)]; rfl
theorem filter_all {pf : Nat → Bool} {l : List Nat} : (l.filter fun c => !pf c) = [] ↔ l.all pf = true := by
  rw [List.filter_eq_nil_iff, List.all_eq_true]
  exact ⟨fun h c hc => by simpa using h c hc, fun h c hc => by simp [h c hc]⟩
theorem eqv_nil (xs : List V) : PyData.eqv (.list (xs.map dat)) (.list []) = xs.isEmpty := by
  cases xs with
  | nil => simp [PyData.eqv, PyData.eqvAll]
  | cons v r => simp [PyData.eqv, PyData.eqvAll]
theorem flat_sign {c : Nat} (h : c < 1114112) : flat (.str ⟨#[c]⟩) := .inr (.inr (.inr ⟨_, rfl, okS_data (okS.one h)⟩))
theorem flat_signs {l : List Nat} (h : ∀ c ∈ l, c < 1114112) : ∀ v ∈ l.map (fun c => V.str ⟨#[c]⟩), flat v := fun v hv => by
  obtain ⟨c, hc, rfl⟩ := List.mem_map.mp hv
  exact flat_sign (h c hc)
theorem isEmpty_all {pf : Nat → Bool} {l : List Nat} {α : Type} (f : Nat → α) : ((l.filter fun c => !pf c).map f).isEmpty = l.all pf := by
  rw [Bool.eq_iff_iff, List.isEmpty_iff, List.map_eq_nil_iff]
  exact filter_all
end Fb

namespace Fb
open PySem PySem.Spec PyProof.Rows L2
/-! ### what is wrong with a journey: 0 nothing, 1 a place, 2 the journey -/
def ask (v : V) : Prop := v = .non ∨ (∃ b, v = .bl b) ∨ (∃ i, v = .int i) ∨ ∃ z, v = .str z ∧ okS 90000 z
theorem ask_flat {v : V} (h : ask v) : flat v := by
  rcases h with h | h | h | ⟨z, h, hz⟩
  · exact .inl h
  · exact .inr (.inl h)
  · exact .inr (.inr (.inl h))
  · exact .inr (.inr (.inr ⟨z, h, okS_data hz⟩))
def dueFrom : Option V → List V → Nat
  | _, [] => 0
  | p, x :: r => if isP x = true then (if p = some x then 2 else dueFrom (some x) r) else 1
def due (xs : List V) : Nat := if 2 ≤ xs.length ∧ xs.length ≤ 40 then dueFrom none xs else 2
def prev (xs : List V) (i : Nat) : Option V := if i = 0 then none else xs[i - 1]?
def dueAt (xs : List V) (i : Nat) : Nat := dueFrom (prev xs i) (xs.drop i)
theorem dueAt_end (xs : List V) : dueAt xs xs.length = 0 := by
  unfold dueAt
  rw [List.drop_length]
  rfl
theorem dueAt_zero (xs : List V) : dueAt xs 0 = dueFrom none xs := rfl
theorem dueAt_step {xs : List V} {i : Nat} {x : V} (h : xs[i]? = some x) : dueAt xs i = if isP x = true then (if prev xs i = some x then 2 else dueAt xs (i + 1)) else 1 := by
  obtain ⟨hl, e⟩ := List.getElem?_eq_some_iff.mp h
  unfold dueAt
  rw [List.drop_eq_getElem_cons hl, e]
  show (if isP x = true then (if prev xs i = some x then 2 else dueFrom (some x) (xs.drop (i + 1))) else 1) = _
  have e2 : prev xs (i + 1) = some x := by
    unfold prev
    rw [if_neg (by omega), Nat.add_sub_cancel, h]
  rw [e2]
theorem due_in {xs : List V} (h1 : 2 ≤ xs.length) (h2 : xs.length ≤ 40) : due xs = dueAt xs 0 := if_pos ⟨h1, h2⟩
theorem due_out {xs : List V} (h : ¬ (2 ≤ xs.length ∧ xs.length ≤ 40)) : due xs = 2 := if_neg h
theorem due_place {xs : List V} {i : Nat} {x : V} (h : xs[i]? = some x) (hp : isP x = false) : dueAt xs i = 1 := by
  rw [dueAt_step h, hp]; rfl
theorem due_same {xs : List V} {i : Nat} {x : V} (h : xs[i]? = some x) (hp : isP x = true) (h0 : i ≠ 0) (hs : xs[i - 1]? = some x) : dueAt xs i = 2 := by
  rw [dueAt_step h, if_pos hp, if_pos (by unfold prev; rw [if_neg h0]; exact hs)]
theorem due_go {xs : List V} {i : Nat} {x : V} (h : xs[i]? = some x) (hp : isP x = true) (hs : i ≠ 0 → xs[i - 1]? ≠ some x) : dueAt xs i = dueAt xs (i + 1) := by
  rw [dueAt_step h, if_pos hp, if_neg (fun e => ?_)]
  unfold prev at e
  by_cases h0 : i = 0
  · rw [if_pos h0] at e; cases e
  · rw [if_neg h0] at e; exact hs h0 e
def word : Nat → Str
  | 0 => Str.ofString ""
  | 1 => Str.ofString "place"
  | _ => Str.ofString "journey"
theorem isP_str {v : V} (h : isP v = true) : ∃ z, v = .str z := by
  cases v with
  | str z => exact ⟨z, rfl⟩
  | _ => cases h
theorem scal_str {z : Str} {v : V} (h : ask v) : scal (.str z) v = true := by
  rcases h with rfl | ⟨b, rfl⟩ | ⟨i, rfl⟩ | ⟨y, rfl, _⟩ <;> rfl
theorem num_small : ∀ i : Nat, i < 300 → ((toString (i : Int) : Str)).length ≤ 3 := by decide +kernel
theorem log_small {i : Nat} (h : i < 1000) : (i : Int).natAbs.log2 < 1920 := by
  have h1 : (i : Int).natAbs = i := by simp
  rw [h1]
  exact Nat.lt_of_le_of_lt (Nat.log2_le_self i) (by omega)
theorem lapp {a b : Str} {n m : Nat} (h : a.length ≤ n) (g : b.length ≤ m) : (a ++ b).length ≤ n + m := by rw [len_app]; omega
/-! ### within a suite: what the outer text says, by K -/
theorem pe_cls {X : Cx} {x : Str} {C : Addr} {pos : Pos} (hm : X.mg x = some (.ref C)) (hg : Gl X x := by rfl) (hd : (x == ("__debug__" : Str)) = false := by decide) : PE X (.Name x pos) (tC (.ref C)) := pe_glob hg hm rfl hd
theorem pe_bty {X : Cx} {x : Str} {n : String} {pos : Pos} (hm : X.mg x = none) (hv : bootBuiltins x = some (.type n)) (hg : Gl X x := by rfl) (hn : x ≠ "__name__" := by decide) (hd : (x == ("__debug__" : Str)) = false := by decide) : PE X (.Name x pos) (tC (.ty n)) := pe_bltn hg hm hv rfl hn hd
theorem op_eqS {X : Cx} {K : PySem.W.Frag} (hu : X.A.units + 64 < cLine) (hK : X.K = K := by rfl) : OpR X (compareOp .Eq) (rEqD K) := hK ▸ op_eqD hu
theorem op_neS {X : Cx} {K : PySem.W.Frag} (hu : X.A.units + 64 < cLine) (hK : X.K = K := by rfl) : OpR X (compareOp .NotEq) (rNeD K) := hK ▸ op_neD hu
theorem ix_listS {X : Cx} {K : PySem.W.Frag} (hK : X.K = K := by rfl) : IxR X (rIxL K) := hK ▸ ix_list
theorem ixN_of {n : Nat} {j : Int} (h0 : 0 ≤ j) (h : j < n) : ixN n j = some j.toNat := by
  unfold ixN
  rw [if_pos h0, if_pos h]
theorem rel_cls {C : Addr} : ∀ u, L2.RelV (.ref C) u → u = Value.ref C := fun _ h => h
theorem rel_ty {n : String} : ∀ u, L2.RelV (.ty n) u → u = Value.type n := fun _ h => h
end Fb

namespace Fb
open PySem PySem.Spec PyProof.Rows L2
/-! ### what the top has left, by facts -/
structure FA (K : PySem.W.Frag) (x : Str) (st : Stmt) (f : Addr) : Prop where
  a : PySem.W.nsIn K mainGlobals x = some (some (.ref f))
  l : ∃ (oc : Value) (od : Option Addr) (kV dc pm : Value) (an : Option Addr) (cd ct : Value) (osl : Array (Option Value)), K.lookup f = some ⟨oc, od, .func (PySem.W.fnOf x x (defArgs st) (defBody st) (defScope st) .none kV dc pm an cd ct), osl⟩ ∧ PySem.W.codeIn K cd x = true
  k : PySem.W.keepIn K (.ref f) = true
/-- .. with its code object and that one's table -/
structure FAC (K : PySem.W.Frag) (x : Str) (st : Stmt) (f c P : Addr) : Prop where
  a : PySem.W.nsIn K mainGlobals x = some (some (.ref f))
  l : ∃ (oc : Value) (od : Option Addr) (kV dc pm : Value) (an : Option Addr) (ct : Value) (osl : Array (Option Value)), K.lookup f = some ⟨oc, od, .func (PySem.W.fnOf x x (defArgs st) (defBody st) (defScope st) .none kV dc pm an (.ref c) ct), osl⟩
  q : PySem.W.codeIn K (.ref c) x = true
  k : PySem.W.keepIn K (.ref f) = true
  c : ∃ (oc : Value) (od : Option Addr) (vs : Array Value) (osl : Array (Option Value)), K.lookup c = some ⟨oc, od, .fields vs, osl⟩ ∧ vs[11]? = some (.ref P)
  n : K.lookup P = none
section
variable {Pg : Program} {w : World} {K : PySem.W.Frag} {mg : Str → Option Value} {base h : Heap} {x : Str} {st : Stmt} {f c P : Addr} {ps : List Str} {sp : Sp} {k : Nat}
theorem FA.dn (A : FA K x st f) (X : K.In h) (G : h.Ns mainGlobals mg) (ok : ∀ fd, Fun K x x st f fd → FnOk Pg w K mg base (L2N.CX Pg w) k f fd ps sp)
    (hb : ∀ (kV doc pm : Value) (an : Option Addr) (cdv ct : Value) (us : List Value), us.length = ps.length → bindArgs (PySem.W.fnOf x x (defArgs st) (defBody st) (defScope st) .none kV doc pm an cdv ct) ⟨us, []⟩ = pure (ps.zip us)) : Dn Pg w K mg base k x ps sp := by
  obtain ⟨oc, od, kV, dc, pm, an, cd, ct, osl, l, c⟩ := A.l
  have F := fun_mk (st := st) l c A.k
  exact ⟨f, _, ok _ F, PySem.W.mg_of X G A.a, A.k, F.binds (ps := ps) hb⟩
theorem FAC.dn (A : FAC K x st f c P) (X : K.In h) (G : h.Ns mainGlobals mg) (ok : ∀ fd, FunC K x x st f fd c → FnOk Pg w K mg base (L2N.CX Pg w) k f fd ps sp)
    (hb : ∀ (kV doc pm : Value) (an : Option Addr) (cdv ct : Value) (us : List Value), us.length = ps.length → bindArgs (PySem.W.fnOf x x (defArgs st) (defBody st) (defScope st) .none kV doc pm an cdv ct) ⟨us, []⟩ = pure (ps.zip us)) : Dn Pg w K mg base k x ps sp := by
  obtain ⟨oc, od, kV, dc, pm, an, ct, osl, l⟩ := A.l
  have F := fun_mk (st := st) l A.q A.k
  exact ⟨f, _, ok _ ⟨oc, od, kV, dc, pm, an, ct, osl, rfl, l, A.q⟩, PySem.W.mg_of X G A.a, A.k, F.binds (ps := ps) hb⟩
/-- the table of such a def at the head's heap -/
theorem FAC.tab (A : FAC K x st f c P) (X : K.In h) (G : h.Ns mainGlobals mg) (T : TabN mg h x) : h.get? P = some { cls := .none, data := .fields #[] } ∧ PySem.W.CodeHd h c P := by
  obtain ⟨a, c', P', o, fd, h1, h2, h3, h4, h5, h6, oc, vc, h7, h8, h9⟩ := T
  rw [PySem.W.mg_of X G A.a] at h1
  cases h1
  obtain ⟨oc2, od, kV, dc, pm, an, ct, osl, l⟩ := A.l
  have g1 := X _ _ l
  rw [h2] at g1
  cases g1
  cases h3
  cases h4
  obtain ⟨oc3, od3, vs, osl3, l3, v11⟩ := A.c
  have g2 := X _ _ l3
  rw [h7] at g2
  cases g2
  cases h8
  rw [v11] at h9
  cases h9
  exact ⟨h6, h5⟩
theorem FA.gint {i : Int} (X : K.In h) (G : h.Ns mainGlobals mg) (a : ∃ t, PySem.W.nsIn K mainGlobals x = some (some (.int i t))) : ∃ t, mg x = some (.int i t) := by
  obtain ⟨t, a⟩ := a
  exact ⟨t, PySem.W.mg_of X G a⟩
end
/-- an own class of errors, by facts -/
structure EA (K : PySem.W.Frag) (x : Str) (C : Addr) : Prop where
  a : PySem.W.nsIn K mainGlobals x = some (some (.ref C))
  k : PySem.W.keepIn K (.ref C) = true
  x : PySem.W.excIn K C [.type "ValueError", .type "Exception", .type "BaseException", .type "object"] "ValueError.__new__" = true
  b : PySem.W.subIn K (.ref C) (.type "BaseException") = some true
  t : PySem.W.typeIn K (.ref C) = some (.type "type")
  i : PySem.W.isClsIn K C = true
  hg : PySem.W.findIn K (.ref C) "__getattribute__" = some (some (.builtin "BaseException.__getattribute__"))
  hk : PySem.W.findIn K (.ref C) "__getattr__" = some none
  hd : PySem.W.hasDictIn K C = true
  ha : PySem.W.findIn K (.ref C) "__class__" = some (some (.builtin "object.__class__"))
  hn : PySem.W.specialIn K (.builtin "object.__class__") "__get__" = some (some (.builtin "getset_descriptor.__get__"))
  ht : PySem.W.takesIn K (.builtin "object.__class__") = some true
  hm : PySem.W.mroIn K C (.type "object") = some true
  v : PySem.W.subIn K (.ref C) (.type "ValueError") = some true
theorem EA.exk {K : PySem.W.Frag} {mg : Str → Option Value} {h : Heap} {x : Str} {C : Addr} (A : EA K x C) (X : K.In h) (G : h.Ns mainGlobals mg) : ExK K mg x C [.type "ValueError", .type "Exception", .type "BaseException", .type "object"] := ⟨PySem.W.mg_of X G A.a, A.k, A.x, A.b, A.t⟩
theorem EA.exc {K : PySem.W.Frag} {x : Str} {C : Addr} (A : EA K x C) : ExcC K C := ⟨A.hg, A.hk, A.b, A.hd, A.ha, A.hn, A.ht, A.hm⟩
theorem kit_self {K : PySem.W.Frag} {C : Addr} : PySem.W.kitOne K (.ref C) (.ref C) = some true := by
  unfold PySem.W.kitOne
  rw [if_pos (by simp)]
theorem EA.kit {K : PySem.W.Frag} {x : Str} {C D : Addr} {b : Bool} (A : EA K x D) (hs : PySem.W.subIn K (.ref C) (.ref D) = some b) (hn : (Value.ref C == Value.ref D) = false) : PySem.W.kitOne K (.ref C) (.ref D) = some b := by
  have h1 : (PySem.W.clsIn K D).isSome = true := A.i
  have e2 : ((PySem.W.clsIn K D).isSome && PySem.W.typeIn K (.ref D) == some (.type "type")) = true := by rw [h1, A.t]; rfl
  unfold PySem.W.kitOne
  rw [hn, if_neg Bool.false_ne_true]
  show (if ((PySem.W.clsIn K D).isSome && PySem.W.typeIn K (.ref D) == some (.type "type")) = true then PySem.W.subIn K (.ref C) (.ref D) else none) = some b
  rw [if_pos e2]
  exact hs
theorem EA.kitV {K : PySem.W.Frag} {x : Str} {C : Addr} (A : EA K x C) : PySem.W.kitOne K (.ref C) (.type "ValueError") = some true := by
  unfold PySem.W.kitOne
  rw [if_neg (by simp)]
  show (if PySem.W.kitMeta "ValueError" = true then PySem.W.subIn K (.ref C) (.type "ValueError") else none) = some true
  rw [if_pos (by decide +kernel)]
  exact A.v
theorem EA.exm {K : PySem.W.Frag} {x : Str} {C D : Addr} {b : Bool} (A : EA K x D) (hs : PySem.W.subIn K (.ref C) (.ref D) = some b) : PySem.W.exmOne K (.ref C) (.ref D) = some b := PySem.W.exm_ref A.b A.hd A.t hs
theorem fa_mk {K : PySem.W.Frag} {x : Str} {st : Stmt} {f : Addr} {oc kV dc pm cd ct : Value} {od an : Option Addr} {osl : Array (Option Value)} (a : PySem.W.nsIn K mainGlobals x = some (some (.ref f)))
    (l : K.lookup f = some ⟨oc, od, .func (PySem.W.fnOf x x (defArgs st) (defBody st) (defScope st) .none kV dc pm an cd ct), osl⟩) (c : PySem.W.codeIn K cd x = true) (k : PySem.W.keepIn K (.ref f) = true) : FA K x st f := ⟨a, ⟨oc, od, kV, dc, pm, an, cd, ct, osl, l, c⟩, k⟩
theorem fac_mk {K : PySem.W.Frag} {x : Str} {st : Stmt} {f c P : Addr} {oc kV dc pm ct oc2 : Value} {od an od2 : Option Addr} {osl osl2 : Array (Option Value)} {vs : Array Value} (a : PySem.W.nsIn K mainGlobals x = some (some (.ref f)))
    (l : K.lookup f = some ⟨oc, od, .func (PySem.W.fnOf x x (defArgs st) (defBody st) (defScope st) .none kV dc pm an (.ref c) ct), osl⟩) (q : PySem.W.codeIn K (.ref c) x = true) (k : PySem.W.keepIn K (.ref f) = true)
    (lc : K.lookup c = some ⟨oc2, od2, .fields vs, osl2⟩) (v : vs[11]? = some (.ref P)) (n : K.lookup P = none) : FAC K x st f c P := ⟨a, ⟨oc, od, kV, dc, pm, an, ct, osl, l⟩, q, k, ⟨oc2, od2, vs, osl2, lc, v⟩, n⟩
theorem gi_mk {K : PySem.W.Frag} {x : Str} {i : Int} {t : Tok} (a : PySem.W.nsIn K mainGlobals x = some (some (.int i t))) : ∃ t, PySem.W.nsIn K mainGlobals x = some (some (.int i t)) := ⟨t, a⟩
end Fb

namespace Fb
open PySem PySem.Spec PyProof.Rows L2
/-! ### for (a, b), v in d.items(), d a dict with tuple keys that stands locked -/
section
variable {X : Cx} {pins : List (Addr × Obj)} {σ : L2.St} {H : Hp} {s : Shared} {d : Addr} {o : Obj}
theorem frzT2 {kvs : List (List Key × V)} (I : Inv X pins σ H s) (h : H d = some (.frz o (.dT kvs))) :
    (d == sysModules) = false ∧ s.heap.get? d = some o ∧ o.ExactDict ∧ ∃ (es : Array DictEntry) (ep : Nat), o.data = .dict es ep ∧ es.size = kvs.length ∧
      ∀ (i : Nat) (k : List Key) (v : V), kvs[i]? = some (k, v) → ∃ (en : DictEntry) (q : Addr), es[i]? = some en ∧ en.key = .ref q ∧ H q = some (.tup (k.map kV)) ∧ L2.RelV v en.val := by
  obtain ⟨hd, z, hs, xs, pr, o', es, ep, ho, hx, hdt, he, _⟩ := I.hok d _ h
  rw [hd] at ho
  cases ho
  refine ⟨hs, hd, hx, es, ep, hdt, ?_, fun i k v e => ?_⟩
  · have l1 : es.size = xs.length := size_of_entries he
    have l2 : kvs.length = xs.length := Paired.length pr
    omega
  · obtain ⟨b, hb, e1, e2, e3⟩ := paired_get pr e
    have q := entry_at he i
    rw [hb] at q
    exact ⟨_, b.2.1, q, rfl, e2, e3⟩
end
def Itit (d : Addr) (o : Obj) (kvs : List (List Key × V)) : It :=
  ⟨fun i H => H d = some (.frz o (.dT kvs)) ∧ i < kvs.length, fun i H x H' => ∃ (T q : Addr) (k : List Key) (v : V), kvs[i]? = some (k, v) ∧ x = .ref T ∧ H T = none ∧ H q = some (.tup (k.map kV)) ∧ H' = upd H T (.tup [.ref q, v]), fun i H => H d = some (.frz o (.dT kvs)) ∧ kvs.length ≤ i⟩
section
variable {P : Program} {w : World} {K : PySem.W.Frag} {d : Addr} {o : Obj} {es : Array DictEntry} {ep : Nat}
theorem turn_itemsT {kvs : List (List Key × V)} {elts : List Expr} {kk : Nat} {tpos : Pos} (it : Addr) (hod : o.data = .dict es ep) :
    Turn P w K (.Tuple elts kk tpos) (Itit d o kvs) [it] it (fun i h => ∃ ok ov, IsItemIter h it d i kvs.length ep ok ov) where
  mem := by simp
  obj := fun i h st b hb => by
    have e : b = it := by simpa using hb
    subst e
    obtain ⟨ok, ov, e⟩ := st
    exact ⟨_, e, fun v z => nomatch z⟩
  keep := fun i h h' st k => let ⟨ok, ov, e⟩ := st; ⟨ok, ov, k it (by simp) _ e⟩
  item := by
    intro X hP hw hK hc i pins s σ H E I hf st hg
    subst hP hw hK
    obtain ⟨hd, hi⟩ := hg
    obtain ⟨hs, hgd, hx, es', ep', hdt, hsz, ent⟩ := frzT2 I hd
    obtain ⟨rfl, rfl⟩ := dict_ep hod hdt
    obtain ⟨⟨k, v⟩, hkv⟩ : ∃ p, kvs[i]? = some p := ⟨kvs[i], List.getElem?_eq_getElem hi⟩
    obtain ⟨en, q, hen, hkey, hq, rv⟩ := ent i k v hkv
    obtain ⟨ok, ov, he⟩ := st
    rw [← hsz] at he
    have hi2 : i < es'.size := by rw [hsz]; exact hi
    have hen2 : es'[i] = en := by
      have := (Array.getElem?_eq_some_iff.mp hen).2
      exact this
    have hlt : it < s.heap.objs.size := Heap.lt_size he
    refine DT.nextI he ⟨o, hgd, hx, hdt⟩ hi2 fun h' ho hT hz hk => ?_
    rw [hen2] at ho hT
    refine ⟨_, rfl, wpAny_letOwnedTupleGo_items (s := { s with heap := h' }) ho fun h'' he' sb => ?_⟩
    have hT2 : h''.get? s.heap.objs.size = some { cls := .type "tuple", data := .seq #[en.key, en.val] } := (sb.2 _ (Nat.ne_of_gt hlt)).trans hT
    have new : ObjOk X.prog X.w (upd H s.heap.objs.size (.tup [.ref q, v])) h'' s.heap.objs.size (.tup [.ref q, v]) :=
      ⟨by show 2 ≤ sizeLine; decide, [en.key, en.val], .cons hkey (.cons rv .nil), ⟨_, hT2, rfl, _, rfl⟩⟩
    have I1 : Inv X pins σ (upd H s.heap.objs.size (.tup [.ref q, v])) { s with heap := h'' } :=
      I.turnedNew (t' := s.toks) (ch := [it]) (fun b ob hb e => (sb.2 b (by simpa using hb)).trans (hk b ob (by simpa using hb) e)) hf (Nat.le_refl _) new
    refine ⟨.ref s.heap.objs.size, _, I1, rfl, ⟨_, q, k, v, hkv, rfl, I.hok.fresh (Nat.le_refl _), hq, rfl⟩, ⟨en.key, en.val, ?_⟩, fun b hb => ?_⟩
    · rw [← hsz]; exact he'
    · have e : b = it := by simpa using hb
      rw [e, upd_ne (Nat.ne_of_lt hlt)]
      exact (hf it (by simp)).1
  done := by
    intro X hP hw hK hc i pins s σ H E I hf st hg
    subst hP hw hK
    obtain ⟨hd, hi⟩ := hg
    obtain ⟨f0, f1, f2, f3, f4, f5⟩ := hf it (by simp)
    obtain ⟨hs, hgd, hx, es', ep', hdt, hsz, ent⟩ := frzT2 I hd
    obtain ⟨rfl, rfl⟩ := dict_ep hod hdt
    obtain ⟨ok, ov, he⟩ := st
    rw [← hsz] at he
    exact DT.endI (I.ok.hd hc) he ⟨o, hgd, hx, hdt⟩ (by omega) fun h' eb => ⟨rfl, I.turned (t' := s.toks) (fun b ob hb e => eb b ob hb e) f0 f1 f3 f4 f5⟩
  self := fun A i s Q E st h => let ⟨_, _, e⟩ := st; PySem.W.kcp_self e h
end
def iItemsT (td : TE) : TI := fun σ H R => td σ H fun x H1 => ∃ d o kvs, x = .ref d ∧ H1 d = some (.frz o (.dT kvs)) ∧ R (Itit d o kvs) H1
theorem pi_itemsT {X : Cx} {e : Expr} {td : TE} {apos cpos tpos : Pos} {elts : List Expr} {kk : Nat} (he : PE X e td) (hbase : attributeBase e "items" X.env (eval e X.env) = eval e X.env := by rfl) (hline : (apos.endLine == cpos.line) = true := by rfl) :
    PI X (.Tuple elts kk tpos) (.Call (.Attribute e "items" apos) [] [] cpos) (iItemsT td) := by
  refine ⟨fun pins s σ H R I h => ?_⟩
  refine wpAny_Call_method (T := "dict") (id := "dict.items") hbase rfl hline F.plainAttrs_dict F.slot_dict_items F.type_dict_items (thn (he.run pins s σ H _ I h) fun u s1 ⟨x, H1, I1, rx, d, o, kvs, ex, hd, q⟩ => ?_)
  subst ex
  obtain rfl : u = Value.ref d := rx
  obtain ⟨hs, hgd, hx, es, ep, hdt, hsz, ent⟩ := frzT2 I1 hd
  have raw : DT.Raw s1.heap d es ep := ⟨o, hgd, hx, hdt⟩
  refine ⟨raw.typeIs, fun a e => by cases e; exact ⟨o, hgd, hx.2.1⟩, ?_⟩
  have I2 : Inv X pins σ H1 { s1 with heap := s1.heap.push { cls := .type "dict_items", data := .fields #[.ref d] } } := I1.kept (t' := s1.toks) fun b ob q => Heap.get?_push_of_some _ q
  have fin : wpAny (model X.prog X.w) X.A (pyIter (.ref s1.heap.objs.size)) (PIE X pins σ (.Tuple elts kk tpos) R) X.xe { s1 with heap := s1.heap.push { cls := .type "dict_items", data := .fields #[.ref d] } } := by
    refine DT.iterI (d := d) ⟨_, Heap.get?_push_size _ rfl, rfl, rfl⟩ (raw.push _) (pi_one (tk := s1.toks) I2 _ (turn_itemsT _ hdt) ⟨.none, .none, ?_⟩ q)
    rw [← hsz]
    exact Heap.get?_push_size _ rfl
  show wpAny _ _ (callWith cpos (.builtin "dict.items") [.ref d] [] []) _ X.xe s1
  exact method_meetsIn F.slot_dict_items F.entry_dict_items rfl (PySem.evalArgs_none ⟨rfl, raw.typeIs, F.args_dict_items_1 _, _, DT.meetsItems (es := es) (ep := ep) hs, raw, fin⟩)
end Fb

namespace Fb
open PySem PySem.Spec PyProof.Rows L2
/-! ### addresses of the program's classes -/
structure Ads where
  FareError : Addr
  BadPlace : Addr
  BadPrice : Addr
  TwiceTold : Addr
  TooMany : Addr
  BadJourney : Addr
  BadCuts : Addr
  NotHeld : Addr
  NoParting : Addr
  BadLine : Addr
  Tariff : Addr
abbrev veMro : List Value := [.type "ValueError", .type "Exception", .type "BaseException", .type "object"]
/-! ### own methods and classes, ready to be called -/
structure Dm (Pg : Program) (w : World) (K : PySem.W.Frag) (mg : Str → Option Value) (base : Heap) (k : Nat) (C : Addr) (m : Str) (ps : List Str) (sp : Sp) : Prop where
  ex : ∃ f fd, FnOk Pg w K mg base (L2N.CX Pg w) k f fd ps sp ∧ Meth K C m f ∧ Binds K fd ps []
/-- a class that is made by its own __init__ -/
structure Dk (Pg : Program) (w : World) (K : PySem.W.Frag) (mg : Str → Option Value) (base : Heap) (k : Nat) (x : Str) (C : Addr) (ps : List Str) (sp : Sp) : Prop where
  g : mg x = some (.ref C)
  ex : ∃ f fd, FnOk Pg w K mg base (L2N.CX Pg w) k f fd ps sp ∧ Mk K C f ∧ Binds K fd ps []
def tMdS (C : Addr) (m : Str) (sp : Sp) (E : L2.St → XK) (ta : TE) (t : TA) : TE := fun σ H Q => ta σ H fun x H1 => ∃ a dx fs, x = .ref a ∧ H1 a = some (.ins C dx fs) ∧ fs.lookup m = none ∧ t σ H1 fun vs H2 => sp (.ref a :: vs) H2 Q (E σ)
def tMkS (C : Addr) (sp : Sp) (E : L2.St → XK) (t : TA) : TE := fun σ H Q => t σ H fun vs H1 => ∀ x dx, H1 x = none → H1 dx = none → dx ≠ x → sp (.ref x :: vs) (upd (upd H1 dx (.own x)) x (.ins C dx [])) (fun v H2 => v = .non ∧ Q (.ref x) H2) (E σ)
section
variable {X : Cx} {k : Nat} {x m : Str} {C : Addr} {ps : List Str} {sp : Sp} {p apos pos : Pos} {o e : Expr} {es : List Expr} {ta : TE} {t : TA} {E : L2.St → XK}
theorem passC (σ : L2.St) : PassesAt (L2N.CX X.prog X.w) X σ E0 := fun pins H s e s' I c => passLN pins σ H s e s' I c
theorem app_nil_run {f : Addr} {fd : FuncData} {pins : List (Addr × Obj)} {σ : L2.St} {H : Hp} {s : Shared} {Q : VK} {us : List Value} {vs : List V} {Ex : XK} (F : FnOk X.prog X.w X.K X.mg X.base (L2N.CX X.prog X.w) k f fd ps sp) (hr : Room k X.A) (hb : Binds X.K fd ps [])
    (hx : PassesAt (L2N.CX X.prog X.w) X σ Ex) (I : Inv X pins σ H s) (r : Vals vs us) (h : sp vs H Q Ex) : wpAny (model X.prog X.w) X.A (call (.ref f) us) (EP X pins σ Q) X.xe s := run_fnS (E := fun _ => Ex) F hr hb hx I r h
/-- o.m(e, ..) -/
theorem pe_mdS {pl : Sem Bool} (he : PE X o ta) (c : Cls X.K C) (D : Dm X.prog X.w X.K X.mg X.base k C m ps sp) (hr : Room k X.A) (hx : ∀ σ, PassesAt (L2N.CX X.prog X.w) X σ (E σ)) (ha : PA X (e :: es) t)
    (hst : starEach (e :: es) X.env = (false, eval e X.env) :: starEach es X.env := by rfl) (hpl : (backTo pos (starEach es X.env)).any (·.1) = false := by rfl)
    (ht : eval (.Call (.Attribute o m apos) (e :: es) [] pos) X.env = (do
      let ov ← eval o X.env
      standAt apos.atName
      let (f, first) ← holding [ov] (getMethod ov m pl)
      callWith pos f first (backTo pos (starEach (e :: es) X.env)) (backToKw pos (keywordEach [] X.env))) := by rfl) :
    PE X (.Call (.Attribute o m apos) (e :: es) [] pos) (tMdS C m sp E ta t) := by
  obtain ⟨f, fd, F, hm, hb⟩ := D.ex
  constructor
  intro pins s σ H Q I h
  refine PySem.W.methodCall_KW (pl := pl) (thn (he.run pins s σ H _ I h) fun u s1 hu => ?_) ht
  obtain ⟨y, H1, I1, ry, a, dx, fs, ey, ea, l, q⟩ := hu
  subst ey
  have eu : u = Value.ref a := ry
  subst eu
  refine getmeth_ok I1 ea c hm l ?_
  refine PySem.W.callWith_K (first := [.ref a]) (h₀ := X.base) I.ok.mod.kin hm.kp (thn (ha.run pos pins s1 σ H1 _ I1 q) fun us s2 hv => ?_) hst hpl
  obtain ⟨vs, H2, I2, r, q2⟩ := hv
  exact ⟨I2.kIn, app_nil_run (us := .ref a :: us) (vs := .ref a :: vs) F hr hb (hx σ) I2 (.cons rfl r) q2⟩
/-- o.m() -/
theorem pe_mdS0 {pl : Sem Bool} (he : PE X o ta) (c : Cls X.K C) (D : Dm X.prog X.w X.K X.mg X.base k C m ps sp) (hr : Room k X.A) (hx : ∀ σ, PassesAt (L2N.CX X.prog X.w) X σ (E σ))
    (ht : eval (.Call (.Attribute o m apos) [] [] pos) X.env = (do
      let ov ← eval o X.env
      standAt apos.atName
      let (f, first) ← holding [ov] (getMethod ov m pl)
      callWith pos f first (backTo pos (starEach [] X.env)) (backToKw pos (keywordEach [] X.env))) := by rfl) :
    PE X (.Call (.Attribute o m apos) [] [] pos) (tMdS C m sp E ta tNil) := by
  obtain ⟨f, fd, F, hm, hb⟩ := D.ex
  constructor
  intro pins s σ H Q I h
  refine PySem.W.methodCall_KW (pl := pl) (thn (he.run pins s σ H _ I h) fun u s1 hu => ?_) ht
  obtain ⟨y, H1, I1, ry, a, dx, fs, ey, ea, l, q⟩ := hu
  subst ey
  have eu : u = Value.ref a := ry
  subst eu
  refine getmeth_ok I1 ea c hm l ?_
  exact PySem.W.callWith_K0 (first := [.ref a]) I1.kIn hm.kp (app_nil_run (us := [.ref a]) (vs := [.ref a]) F hr hb (hx σ) I1 (.cons rfl .nil) q)
/-- C(e, ..) -/
theorem pe_mkS (D : Dk X.prog X.w X.K X.mg X.base k x C ps sp) (hr : Room (k + 1) X.A) (hx : ∀ σ, PassesAt (L2N.CX X.prog X.w) X σ (E σ)) (ha : PA X (e :: es) t) (hg : Gl X x := by rfl)
    (hdb : (x == ("__debug__" : Str)) = false := by decide) (he : starEach (e :: es) X.env = (false, eval e X.env) :: starEach es X.env := by rfl) (hpl : (backTo pos (starEach es X.env)).any (·.1) = false := by rfl) :
    PE X (.Call (.Name x p) (e :: es) [] pos) (tMkS C sp E t) := by
  obtain ⟨f, fd, F, M, hb⟩ := D.ex
  constructor
  intro pins s σ H Q I h
  refine wpAny_Call_Name_kw (ld_glob I hg D.g ?_ hdb)
  refine PySem.W.callWith_K (h₀ := X.base) I.ok.mod.kin M.kp (thn (ha.run pos pins s σ H _ I h) fun us s1 hv => ?_) he hpl
  obtain ⟨vs, H1, I1, r, q⟩ := hv
  refine ⟨I1.kIn, ?_⟩
  have fresh1 : H1 (s1.heap.objs.size + 1) = none := I1.hok.fresh (Nat.le_succ _)
  have fresh0 : H1 s1.heap.objs.size = none := I1.hok.fresh (Nat.le_refl _)
  have want := q _ _ fresh1 fresh0 (Nat.ne_of_lt (Nat.lt_succ_self _))
  have J := Inv.made (C := C) I1
  have rr : Vals (V.ref (s1.heap.objs.size + 1) :: vs) (Value.ref (s1.heap.objs.size + 1) :: us) := .cons rfl r
  have ln : (Value.ref (s1.heap.objs.size + 1) :: us).length = ps.length := by rw [← rr.length]; exact F.len _ _ _ _ want
  have bd := hb _ (Value.ref (s1.heap.objs.size + 1) :: us) J.kIn (by rw [List.append_nil]; exact ln)
  rw [List.append_nil] at bd
  refine wpAny_call (make_map (f := f) I1.kIn M.makes M.init (beq_iff_eq.mp M.fn) (codeAny_mono (F.run _ X.stack _ _ ⟨Value.ref (s1.heap.objs.size + 1) :: us, []⟩ _ _ _ _ (hr.make C us []) (J.env0.make C us []) bd rr want) fun res s' hq => ?_))
  cases res with
  | error er => exact hx σ pins _ _ er s' J hq
  | ok fl =>
    cases fl with
    | ret u =>
      obtain ⟨v, H', I3, rv, ev, q3⟩ := J.after hq
      subst ev
      exact ⟨rv, ⟨V.ref (s1.heap.objs.size + 1), H', I3, rfl, q3⟩⟩
    | next => exact hq.elim
    | brk => exact hq.elim
    | cont => exact hq.elim
end
end Fb

namespace Fb
open PySem PySem.Spec PyProof.Rows L2
/-! ### tariffs: the rows, and what is wrong with one more: 0 nothing, 1 a place, 2 the price, 3 told twice, 4 too many -/
abbrev Row := Str × Str × Int
def rowK (r : Row) : List Key × V := ([.inr r.1, .inr r.2.1], .int r.2.2)
def isC : V → Bool
  | .int i => decide (0 ≤ i) && decide (i ≤ 1000000000000)
  | _ => false
def strOf : V → Str
  | .str z => z
  | _ => Str.ofString ""
def intOf : V → Int
  | .int i => i
  | _ => 0
def mkRow (a b c : V) : Row := (strOf a, strOf b, intOf c)
def isTold (rs : List Row) (a b : V) : Bool := (valV (rs.map rowK) [.inr (strOf a), .inr (strOf b)]).isSome
def putDue (rs : List Row) (a b c : V) : Nat :=
  if isP a = true then (if isP b = true then (if a = b then 1 else if isC c = true then (if isTold rs a b = true then 3 else if 160 ≤ rs.length then 4 else 0) else 2) else 1) else 1
/-- the rows one by one, from the rows rs on -/
def takeRows : List Row → List (V × V × V) → Nat × List Row
  | rs, [] => (0, rs)
  | rs, (a, b, c) :: r => if putDue rs a b c = 0 then takeRows (rs ++ [mkRow a b c]) r else (putDue rs a b c, rs)
def errOf (a : Ads) : Nat → Addr
  | 1 => a.BadPlace
  | 2 => a.BadPrice
  | 3 => a.TwiceTold
  | _ => a.TooMany
structure TarAt (C : Addr) (H : Hp) (p d : Addr) (rs : List Row) : Prop where
  ob : ∃ dx, H p = some (.ins C dx [("_prices", .ref d)])
  dc : H d = some (.dT (rs.map rowK))
theorem TarAt.keep {C : Addr} {H H' : Hp} {p d : Addr} {rs : List Row} (T : TarAt C H p d rs) (k : ∀ b o, b = p ∨ b = d → H b = some o → H' b = some o) : TarAt C H' p d rs := by
  obtain ⟨dx, h⟩ := T.ob
  exact ⟨⟨dx, k _ _ (.inl rfl) h⟩, k _ _ (.inr rfl) T.dc⟩
theorem TarAt.same {C : Addr} {H H' : Hp} {p d : Addr} {rs : List Row} (T : TarAt C H p d rs) (s : Same H H') : TarAt C H' p d rs := T.keep fun b o _ e => s b o e
theorem TarAt.ne {C : Addr} {H : Hp} {p d : Addr} {rs : List Row} (T : TarAt C H p d rs) : p ≠ d := by
  obtain ⟨dx, h⟩ := T.ob
  exact ne_of h T.dc (by intro z; cases z)
theorem rowK_put {rs : List Row} {a b : Str} {n : Int} (h : valV (rs.map rowK) [.inr a, .inr b] = none) : putK (rs.map rowK) [.inr a, .inr b] (.int n) = (rs ++ [(a, b, n)]).map rowK := by
  rw [putK_new _ h, List.map_append]
  rfl
theorem prices_lookup (d : Addr) : List.lookup ("_prices" : Str) [(("_prices" : Str), V.ref d)] = some (.ref d) := by simp [List.lookup]
theorem prices_no (d : Addr) {m : Str} (h : (m == ("_prices" : Str)) = false) : List.lookup m [(("_prices" : Str), V.ref d)] = none := by simp [List.lookup, h]
/-- the rows as they are told -/
def IsRow (H : Hp) (t : Addr) (r : Row) : Prop := H t = some (.tup [.str r.1, .str r.2.1, .int r.2.2])
/-- what stands at t is handed in as a row -/
def IsGiven (K : PySem.W.Frag) (H : Hp) (t : Addr) (r : V × V × V) : Prop := SqT K H t [r.1, r.2.1, r.2.2]
theorem IsRow.given {K : PySem.W.Frag} {H : Hp} {t : Addr} {r : Row} (h : IsRow H t r) : IsGiven K H t (.str r.1, .str r.2.1, .int r.2.2) := SqT.of h

structure MonoG (g : TG) : Prop where
  to : ∀ (x : V) (σ : L2.St) (H : Hp) (Q Q' : L2.St → Hp → Prop), (∀ σ H, Q σ H → Q' σ H) → g x σ H Q → g x σ H Q'
structure MonoGs (g : TGs) : Prop where
  to : ∀ (xs : List V) (σ : L2.St) (H : Hp) (Q Q' : L2.St → Hp → Prop), (∀ σ H, Q σ H → Q' σ H) → g xs σ H Q → g xs σ H Q'
theorem mono_name {i : Nat} : MonoG (gName i) := ⟨fun _ _ _ _ _ h q => h _ _ q⟩
theorem mono_nil : MonoGs gNil := ⟨fun _ _ _ _ _ h q => ⟨q.1, h _ _ q.2⟩⟩
theorem mono_cons {t : TG} {u : TGs} (ht : MonoG t) (hu : MonoGs u) : MonoGs (gCons t u) := ⟨fun _ _ _ _ _ h q => by
  obtain ⟨v, r, e, q⟩ := q
  exact ⟨v, r, e, ht.to _ _ _ _ _ (fun σ H z => hu.to _ _ _ _ _ h z) q⟩⟩
theorem mono_tup {K : PySem.W.Frag} {n : Nat} {t : TGs} (ht : MonoGs t) : MonoG (gTup K n t) := ⟨fun _ _ _ _ _ h q => by
  obtain ⟨p, xs, e, hs, hl, q⟩ := q
  exact ⟨p, xs, e, hs, hl, ht.to _ _ _ _ _ h q⟩⟩

section
variable {te : TE} {g : TG} {vs : List Nat} {σ : L2.St} {H1 : Hp} {D d : Addr} {o : Obj} {kvs : List (List Key × V)} {Qd : Hp → Prop}
theorem lc_itemsT (R : Nat → V → Hp → Prop) (hR : ∀ i v H H', SameB D H H' → R i v H → R i v H') (hD : H1 D = none) (hd : H1 d = some (.frz o (.dT kvs))) (hn : kvs.length ≤ 90000)
    (hs : ∀ i k v T q H acc, kvs[i]? = some (k, v) → Same H1 H → H D = some (.lst acc) → H T = some (.tup [.ref q, v]) → H q = some (.tup (k.map kV)) → ∀ Q : VK, (∀ y H', Same H H' → R i y H' → Q y H') → g (.ref T) (wipe σ vs) H fun σ2 H2 => wipe σ2 vs = wipe σ vs ∧ te σ2 H2 Q)
    (hk : MonoG g)
    (he : ∀ H ys, Same H1 H → H D = some (.lst ys) → ys.length = kvs.length → (∀ i v, ys[i]? = some v → R i v H) → Qd H) :
    ∃ W : Nat → Nat → Hp → Prop, (∃ m, W 0 m (upd H1 D (.lst []))) ∧ ∀ i m H, W i m H →
      ((Itit d o kvs).stop i H ∧ Qd H) ∨ ((Itit d o kvs).go i H ∧ ∃ Nx : Hp → Prop, (∀ H', Nx H' → ∃ m', m' < m ∧ W (i + 1) m' H') ∧ ∀ x H', (Itit d o kvs).yld i H x H' → g x (wipe σ vs) H' fun σ2 H2 => wipe σ2 vs = wipe σ vs ∧ tYes σ2 H2 fun b H3 =>
        if b = true then te σ2 H3 fun y H4 => ∃ acc, H4 D = some (.lst acc) ∧ acc.length < sizeLine ∧ Nx (upd H4 D (.lst (acc ++ [y]))) else Nx H3) := by
  refine ⟨fun i m H => m = kvs.length - i ∧ i ≤ kvs.length ∧ ∃ ys, Same H1 H ∧ H D = some (.lst ys) ∧ ys.length = i ∧ ∀ k v, ys[k]? = some v → R k v H, ⟨kvs.length, by simp, Nat.zero_le _, [], same_new hD, upd_same, rfl, fun k v e => by simp at e⟩, ?_⟩
  rintro i m H ⟨rfl, hi, ys, s1, hDl, hl, hr⟩
  by_cases hlt : i < kvs.length
  · refine .inr ⟨⟨s1 _ _ hd, hlt⟩, fun H' => ∃ ys, Same H1 H' ∧ H' D = some (.lst ys) ∧ ys.length = i + 1 ∧ ∀ k v, ys[k]? = some v → R k v H', fun H' p' => ⟨kvs.length - (i + 1), by omega, rfl, hlt, p'⟩, fun x H' yl => ?_⟩
    obtain ⟨T, q, k, v, hkv, rfl, hT, hq, rfl⟩ := yl
    have sT : Same H (upd H T (.tup [.ref q, v])) := same_new hT
    have hDl2 := sT _ _ hDl
    refine hk.to _ _ _ _ _ (fun σ2 H2 h => ⟨h.1, yes_go h.2⟩) (hs i k v T q _ ys hkv (Same.trans s1 sT) hDl2 upd_same (sT _ _ hq) _ fun y H3 s3 r => ?_)
    refine ⟨ys, s3 _ _ hDl2, szlt (by omega), ys ++ [y], same_mut (Same.trans (Same.trans s1 sT) s3) hD, upd_same, by rw [List.length_append]; simp [hl], lc_step hR hl (Same.trans sT s3) hr r⟩
  · have e : i = kvs.length := by omega
    subst e
    exact .inl ⟨⟨s1 _ _ hd, Nat.le_refl _⟩, he H ys s1 hDl hl hr⟩
end
theorem pair_of {α : Type} {R : Addr → α → Prop} : ∀ {ys : List V} {rs : List α}, ys.length = rs.length → (∀ (i : Nat) v, ys[i]? = some v → ∃ t, v = .ref t ∧ ∃ r, rs[i]? = some r ∧ R t r) → ∃ ts : List Addr, ys = ts.map V.ref ∧ Paired R ts rs
  | [], [], _, _ => ⟨[], rfl, .nil⟩
  | [], _ :: _, h, _ => by simp at h
  | _ :: _, [], h, _ => by simp at h
  | y :: ys, r :: rs, h, k => by
    obtain ⟨t, e, r', e2, hr⟩ := k 0 y rfl
    have e3 : r = r' := by simpa using e2
    subst e3
    obtain ⟨ts, e4, hp⟩ := pair_of (ys := ys) (rs := rs) (by simpa using h) fun i v hv => by
      have := k (i + 1) v (by simpa using hv)
      simpa using this
    exact ⟨t :: ts, by rw [e, e4]; rfl, .cons hr hp⟩

end Fb

namespace Fb
open PySem PySem.Spec PyProof.Rows L2
/-! ### the law's names -/
def code (x : Int) : Nat := (x % 26).toNat + 97
theorem code_letter (x : Int) : letter (code x) = true := by
  unfold letter code
  have h1 : (x % 26).toNat < 26 := by omega
  simp only [Bool.and_eq_true, decide_eq_true_eq]
  omega
theorem code_lt (x : Int) : code x < 1114112 := by unfold code; omega
theorem abc_code (x : Int) : atI abc.cps.toList (x % 26) = some (code x) := abc_at (by omega) (by omega)
def nmSize (c : Int) : Nat := (c / 26 % 11).toNat
def nmPlace (c : Int) : Nat := (c / 286 % ((nmSize c : Int) + 1)).toNat
def nmBase (c : Int) (k : Nat) : List Nat := (List.range (nmSize c)).map fun (j : Nat) => code (c / 3 + (k : Int) * k * (c / 3432 % 2) + 5 * (j : Int))
def nmOne (c : Int) : Bool := decide (c / 6864 % 4 = 1)
def nameL (c : Int) (k : Nat) : List Nat :=
  if nmOne c = true then List.replicate (1 + k % 12) (code (c + ((k / 12 : Nat) : Int)))
  else (nmBase c k).take (nmPlace c) ++ [code (c + (k : Int))] ++ (nmBase c k).drop (nmPlace c) ++ List.replicate (k / 26) 120
def nameOf (c : Int) (k : Nat) : Str := ⟨(nameL c k).toArray⟩
theorem nmSize_le (c : Int) : nmSize c ≤ 10 := by unfold nmSize; omega
theorem nmPlace_le (c : Int) : nmPlace c ≤ nmSize c := by
  unfold nmPlace
  have h := Int.emod_lt_of_pos (c / 286) (show (0 : Int) < (nmSize c : Int) + 1 by omega)
  have h0 := Int.emod_nonneg (c / 286) (show ((nmSize c : Int) + 1) ≠ 0 by omega)
  omega
theorem nmBase_len (c : Int) (k : Nat) : (nmBase c k).length = nmSize c := by unfold nmBase; simp
theorem nameL_len2 (c : Int) (k : Nat) (h : nmOne c = false) : (nameL c k).length = nmSize c + 1 + k / 26 := by
  unfold nameL
  rw [h, if_neg Bool.false_ne_true]
  have h1 := nmPlace_le c
  simp only [List.length_append, List.length_take, List.length_drop, List.length_replicate, List.length_cons, List.length_nil, nmBase_len]
  omega
theorem nameL_letters (c : Int) (k : Nat) : ∀ x ∈ nameL c k, letter x = true := by
  intro x hx
  unfold nameL at hx
  have hb : ∀ y ∈ nmBase c k, letter y = true := fun y hy => by
    obtain ⟨j, _, rfl⟩ := List.mem_map.mp hy
    exact code_letter _
  split at hx
  · rw [(List.mem_replicate.mp hx).2]; exact code_letter _
  · rcases List.mem_append.mp hx with h | h
    · rcases List.mem_append.mp h with h | h
      · rcases List.mem_append.mp h with h | h
        · exact hb x (List.mem_of_mem_take h)
        · rw [List.mem_singleton.mp h]; exact code_letter _
      · exact hb x (List.mem_of_mem_drop h)
    · rw [(List.mem_replicate.mp h).2]; decide
theorem name_len (c : Int) (k : Nat) : (nameOf c k).length = (nameL c k).length := by rw [len_tl]; rfl
theorem name_isP {c : Int} {k : Nat} (hk : k < 52) : isP (.str (nameOf c k)) = true := by
  show (decide (1 ≤ (nameOf c k).length) && decide ((nameOf c k).length ≤ 12) && (nameL c k).all letter) = true
  rw [name_len]
  have h3 : (nameL c k).all letter = true := List.all_eq_true.mpr (nameL_letters c k)
  have h1 : 1 ≤ (nameL c k).length ∧ (nameL c k).length ≤ 12 := by
    cases h : nmOne c with
    | true =>
      unfold nameL
      rw [h, if_pos rfl, List.length_replicate]
      omega
    | false =>
      rw [nameL_len2 c k h]
      have := nmSize_le c
      omega
  rw [h3, decide_eq_true h1.1, decide_eq_true h1.2]; rfl
theorem code_inj {x y : Int} (h : code x = code y) (h1 : -26 < x - y) (h2 : x - y < 26) : x = y := by
  unfold code at h
  omega
theorem name_inj {c : Int} {k l : Nat} (hk : k < 52) (hl : l < 52) (h : nameOf c k = nameOf c l) : k = l := by
  have h1 : nameL c k = nameL c l := congrArg (fun z : Str => z.cps.toList) h
  cases ho : nmOne c with
  | true =>
    unfold nameL at h1
    rw [ho, if_pos rfl, if_pos rfl] at h1
    have l1 := congrArg List.length h1
    rw [List.length_replicate, List.length_replicate] at l1
    have h2 := congrArg (fun z : List Nat => z[0]?) h1
    simp only [List.getElem?_replicate] at h2
    rw [if_pos (by omega), if_pos (by omega)] at h2
    have h3 := code_inj (Option.some.inj h2) (by omega) (by omega)
    omega
  | false =>
    have l1 := congrArg List.length h1
    rw [nameL_len2 c k ho, nameL_len2 c l ho] at l1
    have hp := nmPlace_le c
    have at_ : ∀ m : Nat, (nameL c m)[nmPlace c]? = some (code (c + (m : Int))) := fun m => by
      unfold nameL
      rw [ho, if_neg Bool.false_ne_true]
      rw [List.append_assoc, List.append_assoc, List.getElem?_append_right (by rw [List.length_take, nmBase_len]; omega), List.length_take, nmBase_len]
      rw [show nmPlace c - min (nmPlace c) (nmSize c) = 0 by omega]
      rfl
    have h2 := congrArg (fun z : List Nat => z[nmPlace c]?) h1
    simp only [at_] at h2
    have h3 := code_inj (Option.some.inj h2) (by omega) (by omega)
    omega
/-! texts by parts -/
theorem cut_take (z : Str) (k : Nat) (h : k ≤ z.cps.toList.length) : (cutS z none (some (k : Int))).cps.toList = z.cps.toList.take k := by
  unfold cutS
  show ((z.cps.toList.drop (HT.sIx z.length 0 none)).take (HT.sIx z.length z.length (some (k : Int)) - HT.sIx z.length 0 none)) = _
  rw [HT.sIx_none, HT.sIx_nat, List.drop_zero, len_tl, Nat.min_eq_left h, Nat.sub_zero]
theorem cut_drop (z : Str) (k : Nat) (h : k ≤ z.cps.toList.length) : (cutS z (some (k : Int)) none).cps.toList = z.cps.toList.drop k := by
  unfold cutS
  show ((z.cps.toList.drop (HT.sIx z.length 0 (some (k : Int)))).take (HT.sIx z.length z.length none - HT.sIx z.length 0 (some (k : Int)))) = _
  rw [HT.sIx_none, HT.sIx_nat, len_tl, Nat.min_eq_left h]
  rw [List.take_of_length_le (by rw [List.length_drop]; exact Nat.le_refl _)]
theorem fold_one (x : Nat) : ∀ (n : Nat) (acc : Array Nat), ((List.replicate n #[x]).foldl (· ++ ·) acc).toList = acc.toList ++ List.replicate n x
  | 0, acc => by simp
  | n + 1, acc => by
    rw [List.replicate_succ, List.foldl_cons, fold_one x n (acc ++ #[x])]
    simp [List.replicate_succ]
theorem mul_sign (x : Nat) (n : Int) (h : 0 ≤ n) : (Txt.mul ⟨#[x]⟩ n).cps.toList = List.replicate n.toNat x := by
  unfold Txt.mul
  by_cases h1 : n < 1
  · rw [if_pos h1]
    have e : n = 0 := by omega
    subst e; rfl
  · rw [if_neg h1]
    by_cases h2 : n = 1
    · subst h2; rfl
    · rw [if_neg (by
        have e1 : (n == 1) = false := by simpa using h2
        rw [e1]
        show ¬ (false || (1 == 0)) = true
        decide)]
      show ((List.replicate n.toNat #[x]).foldl (· ++ ·) #[]).toList = _
      rw [fold_one]; simp
theorem str_ext {a b : Str} (h : a.cps.toList = b.cps.toList) : a = b := TL.ext_tl h
theorem signs_of {n : Nat} {f : Nat → Nat} {ys : List V} (hl : ys.length = n) (hr : ∀ i v, ys[i]? = some v → v = V.str ⟨#[f i]⟩) : ∃ zs : List Str, ys = zs.map V.str ∧ (zs.map TL.tl).flatten = (List.range n).map f ∧ (∀ z ∈ zs, z.length = 1) := by
  have e : ys = (List.range n).map fun i => V.str ⟨#[f i]⟩ := by
    refine List.ext_getElem? fun i => ?_
    by_cases h : i < n
    · rw [List.getElem?_map, List.getElem?_range h]
      have h2 : i < ys.length := by omega
      rw [List.getElem?_eq_getElem h2, hr i _ (List.getElem?_eq_getElem h2)]
      rfl
    · rw [List.getElem?_eq_none (by omega), List.getElem?_eq_none (by simp; omega)]
  refine ⟨(List.range n).map fun i => ⟨#[f i]⟩, by rw [e, List.map_map]; rfl, ?_, fun z hz => ?_⟩
  · rw [List.map_map]
    clear e hr hl
    induction (List.range n) with
    | nil => rfl
    | cons a r ih => rw [List.map_cons, List.flatten_cons, ih]; rfl
  · obtain ⟨i, _, rfl⟩ := List.mem_map.mp hz
    rfl
end Fb

namespace Fb
open PySem PySem.Spec PyProof.Rows L2
/-! ### good rows -/
def wayK (x y : Str) : List Key := [.inr x, .inr y]
structure GoodRow (r : Row) : Prop where
  p1 : isP (.str r.1) = true
  p2 : isP (.str r.2.1) = true
  ne : r.1 ≠ r.2.1
  c : isC (.int r.2.2) = true
structure GoodRows (rs : List Row) : Prop where
  ok : ∀ r ∈ rs, GoodRow r
  nd : (rs.map fun r => (r.1, r.2.1)).Nodup
theorem valV_none {κ : Type} [DecidableEq κ] {kvs : List (κ × V)} {k : κ} (h : ∀ v, (k, v) ∉ kvs) : valV kvs k = none := by
  induction kvs with
  | nil => rfl
  | cons q r ih =>
    have n : ¬ q.1 = k := fun e => h q.2 (by rw [← e]; exact List.mem_cons_self)
    rw [valV_neg n]
    exact ih fun v hv => h v (List.mem_cons_of_mem _ hv)
theorem valV_some {κ : Type} [DecidableEq κ] {kvs : List (κ × V)} {k : κ} {v : V} (h : valV kvs k = some v) : (k, v) ∈ kvs := by
  induction kvs with
  | nil => cases h
  | cons q r ih =>
    by_cases e : q.1 = k
    · rw [valV_pos e] at h
      cases h
      rw [← e]
      exact List.mem_cons_self
    · rw [valV_neg e] at h
      exact List.mem_cons_of_mem _ (ih h)
theorem wayK_inj {x y x' y' : Str} (h : wayK x y = wayK x' y') : x = x' ∧ y = y' := by
  unfold wayK at h
  have h1 := List.cons.inj h
  have h2 := List.cons.inj h1.2
  exact ⟨Sum.inr.inj h1.1, Sum.inr.inj h2.1⟩
theorem way_new {rs : List Row} {x y : Str} (f : Row → V) (h : valV (rs.map fun r => (wayK r.1 r.2.1, f r)) (wayK x y) = none) : (x, y) ∉ rs.map fun r => (r.1, r.2.1) := by
  induction rs with
  | nil => simp
  | cons q r ih =>
    intro hm
    by_cases e : wayK q.1 q.2.1 = wayK x y
    · rw [List.map_cons, valV_pos (show (wayK q.1 q.2.1, f q).1 = wayK x y from e)] at h
      cases h
    · rw [List.map_cons, valV_neg (show ¬ (wayK q.1 q.2.1, f q).1 = wayK x y from e)] at h
      rcases List.mem_cons.mp hm with e2 | e2
      · have e3 : x = q.1 ∧ y = q.2.1 := by simpa using e2
        exact e (by rw [e3.1, e3.2])
      · exact ih h e2
theorem way_none {rs : List Row} {x y : Str} (f : Row → V) (h : (x, y) ∉ rs.map fun r => (r.1, r.2.1)) : valV (rs.map fun r => (wayK r.1 r.2.1, f r)) (wayK x y) = none := by
  refine valV_none fun v hv => ?_
  obtain ⟨r, hr, e⟩ := List.mem_map.mp hv
  have e1 := (Prod.mk.inj e).1
  obtain ⟨e2, e3⟩ := wayK_inj e1
  exact h (List.mem_map.mpr ⟨r, hr, by rw [e2, e3]⟩)
def givenOf (r : Row) : V × V × V := (.str r.1, .str r.2.1, .int r.2.2)
theorem isP_ask {z : Str} (h : isP (.str z) = true) : ask (.str z) := by
  have h1 : (decide (1 ≤ z.length) && decide (z.length ≤ 12) && z.cps.toList.all letter) = true := h
  simp only [Bool.and_eq_true, decide_eq_true_eq] at h1
  refine .inr (.inr (.inr ⟨z, rfl, by omega, fun c hc => ?_⟩))
  have h2 := List.all_eq_true.mp h1.2 c hc
  unfold letter at h2
  simp only [Bool.and_eq_true, decide_eq_true_eq] at h2
  omega
theorem put_good {rs : List Row} {r : Row} (h : GoodRow r) (hn : (r.1, r.2.1) ∉ rs.map fun r => (r.1, r.2.1)) (hl : rs.length < 160) : putDue rs (.str r.1) (.str r.2.1) (.int r.2.2) = 0 := by
  unfold putDue
  have e : isTold rs (.str r.1) (.str r.2.1) = false := by
    unfold isTold
    rw [show valV (rs.map rowK) [Sum.inr (strOf (.str r.1)), Sum.inr (strOf (.str r.2.1))] = none from way_none (fun r => .int r.2.2) hn]
    rfl
  rw [if_pos h.p1, if_pos h.p2, if_neg (fun z => h.ne (V.str.inj z)), if_pos h.c, e, if_neg Bool.false_ne_true, if_neg (by omega)]
theorem take_good {rs' : List Row} : ∀ {rs : List Row}, GoodRows (rs ++ rs') → (rs ++ rs').length ≤ 160 → takeRows rs (rs'.map givenOf) = (0, rs ++ rs') := by
  induction rs' with
  | nil => intro rs _ _; rw [List.append_nil]; rfl
  | cons r r' ih =>
    intro rs g hl
    have hg := g.ok r (by simp)
    have nd := g.nd
    rw [List.map_append, List.map_cons] at nd
    have hn : (r.1, r.2.1) ∉ rs.map fun r => (r.1, r.2.1) := fun hm => (List.nodup_append.mp nd).2.2 _ hm _ List.mem_cons_self rfl
    have h0 := put_good hg hn (by rw [List.length_append, List.length_cons] at hl; omega)
    show (if putDue rs (.str r.1) (.str r.2.1) (.int r.2.2) = 0 then takeRows (rs ++ [mkRow (.str r.1) (.str r.2.1) (.int r.2.2)]) (r'.map givenOf) else _) = _
    rw [if_pos h0]
    have e : rs ++ [mkRow (.str r.1) (.str r.2.1) (.int r.2.2)] ++ r' = rs ++ r :: r' := by rw [List.append_assoc]; rfl
    rw [ih (rs := rs ++ [mkRow (.str r.1) (.str r.2.1) (.int r.2.2)]) (by rw [e]; exact g) (by rw [e]; exact hl), e]
theorem good_snoc {rs : List Row} {r : Row} (g : GoodRows rs) (h : GoodRow r) (hn : (r.1, r.2.1) ∉ rs.map fun r => (r.1, r.2.1)) : GoodRows (rs ++ [r]) := by
  refine ⟨fun q hq => ?_, ?_⟩
  · rcases List.mem_append.mp hq with h1 | h1
    · exact g.ok q h1
    · rw [List.mem_singleton.mp h1]; exact h
  · rw [List.map_append]
    refine List.nodup_append.mpr ⟨g.nd, by simp, fun a ha b hb e => ?_⟩
    rw [List.map_cons, List.map_nil, List.mem_singleton] at hb
    rw [e, hb] at ha
    exact hn ha
theorem good_ask {rs : List Row} (g : GoodRows rs) : ∀ q ∈ rs.map givenOf, ask q.1 ∧ ask q.2.1 ∧ ask q.2.2 := fun q hq => by
  obtain ⟨r, hr, rfl⟩ := List.mem_map.mp hq
  have h := g.ok r hr
  exact ⟨isP_ask h.p1, isP_ask h.p2, .inr (.inr (.inl ⟨_, rfl⟩))⟩
/-! rows as data -/
def rowV (r : Row) : List V := [.str r.1, .str r.2.1, .int r.2.2]
def rowD (r : Row) : PyData := .tuple ((rowV r).map dat)
theorem row_flat {r : Row} (h : GoodRow r) : ∀ v ∈ rowV r, flat v := fun v hv => by
  unfold rowV at hv
  simp only [List.mem_cons, List.not_mem_nil, or_false] at hv
  rcases hv with e | e | e
  · rw [e]; exact ask_flat (isP_ask h.p1)
  · rw [e]; exact ask_flat (isP_ask h.p2)
  · rw [e]; exact .inr (.inr (.inl ⟨_, rfl⟩))
theorem dp_row {K : PySem.W.Frag} {H : Hp} {t : Addr} {r : Row} (h : GoodRow r) (e : IsRow H t r) : Dp K H (.ref t) (rowD r) := .tup (SqT.of e) (dpAll_flat (row_flat h))
theorem dp_rows {K : PySem.W.Frag} {H : Hp} : ∀ {ts : List Addr} {rs : List Row}, (∀ r ∈ rs, GoodRow r) → Paired (IsRow H) ts rs → DpAll K H (ts.map V.ref) (rs.map rowD)
  | _, _, _, .nil => .nil
  | _, _, g, .cons h t => .cons (dp_row (g _ List.mem_cons_self) h) (dp_rows (fun r hr => g r (List.mem_cons_of_mem _ hr)) t)
theorem shaped_row {r : Row} (h : GoodRow r) : SeqAt.shaped (rowD r) = true := shaped_tup (row_flat h)
theorem lay_rows : ∀ {rs : List Row}, (∀ r ∈ rs, GoodRow r) → PyData.canLayAll0 (rs.map rowD) = true ∧ PyData.depthAll (rs.map rowD) ≤ 1
  | [], _ => ⟨by simp [PyData.canLayAll0], by simp [PyData.depthAll]⟩
  | r :: rs, g => by
    have h1 := layAll_flat (row_flat (g r List.mem_cons_self))
    have h2 := lay_rows (rs := rs) fun q hq => g q (List.mem_cons_of_mem _ hq)
    have e1 : PyData.canLay0 (rowD r) = true := by unfold rowD; rw [PyData.canLay0, h1.1]
    have e2 : PyData.depth (rowD r) = 1 := by unfold rowD; rw [PyData.depth, h1.2]
    refine ⟨?_, ?_⟩
    · rw [List.map_cons, PyData.canLayAll0, e1, h2.1]; rfl
    · rw [List.map_cons, PyData.depthAll, e2]
      exact Nat.max_le.mpr ⟨Nat.le_refl _, h2.2⟩
theorem shaped_rows {rs : List Row} (g : ∀ r ∈ rs, GoodRow r) : SeqAt.shaped (.list (rs.map rowD)) = true := by
  have h := lay_rows g
  unfold SeqAt.shaped
  rw [PyData.canLay0, h.1, PyData.depth]
  have h2 : PyData.depthAll (rs.map rowD) + 1 ≤ 64 := by omega
  rw [decide_eq_true h2]; rfl
theorem nodup_take {α : Type} : ∀ {l : List α} {i : Nat} {x : α}, l.Nodup → l[i]? = some x → x ∉ l.take i
  | [], _, _, _, h => by simp at h
  | y :: l, 0, x, _, _ => by simp
  | y :: l, i + 1, x, nd, h => by
    have h1 := List.nodup_cons.mp nd
    have h2 : l[i]? = some x := by simpa using h
    have h3 := nodup_take (l := l) (i := i) h1.2 h2
    rw [List.take_succ_cons]
    intro hm
    rcases List.mem_cons.mp hm with e | e
    · rw [← e] at h1; exact h1.1 (List.mem_of_getElem? h2)
    · exact h3 e
theorem way_fresh {rs : List Row} {i : Nat} {r : Row} (g : GoodRows rs) (h : rs[i]? = some r) : valV ((rs.take i).map rowK) [.inr r.1, .inr r.2.1] = none := by
  refine way_none (rs := rs.take i) (fun r => .int r.2.2) ?_
  have h1 : (rs.map fun r => (r.1, r.2.1))[i]? = some (r.1, r.2.1) := by rw [List.getElem?_map, h]; rfl
  have h2 := nodup_take g.nd h1
  rw [← List.map_take] at h2
  exact h2
theorem take_rowK {rs : List Row} {i : Nat} {r : Row} (g : GoodRows rs) (h : rs[i]? = some r) : putK ((rs.take i).map rowK) [.inr r.1, .inr r.2.1] (.int r.2.2) = (rs.take (i + 1)).map rowK := by
  rw [rowK_put (way_fresh g h), List.take_add_one, h]
  rfl
theorem shaped_two {r1 r2 : List Row} (g1 : ∀ r ∈ r1, GoodRow r) (g2 : ∀ r ∈ r2, GoodRow r) : SeqAt.shaped (.list [.list (r1.map rowD), .list (r2.map rowD)]) = true := by
  have h1 := lay_rows g1
  have h2 := lay_rows g2
  have e : PyData.depthAll [.list (r1.map rowD), .list (r2.map rowD)] ≤ 2 := by
    rw [PyData.depthAll, PyData.depthAll, PyData.depthAll, PyData.depth, PyData.depth]
    omega
  unfold SeqAt.shaped
  rw [PyData.canLay0, PyData.canLayAll0, PyData.canLayAll0, PyData.canLayAll0, PyData.canLay0, PyData.canLay0, h1.1, h2.1, PyData.depth]
  rw [decide_eq_true (show PyData.depthAll [.list (r1.map rowD), .list (r2.map rowD)] + 1 ≤ 64 by omega)]
  rfl
theorem given_rows {K : PySem.W.Frag} {H : Hp} {ts : List Addr} {rs : List Row} (h : Paired (IsRow H) ts rs) : Paired (IsGiven K H) ts (rs.map givenOf) := by
  induction h with
  | nil => exact .nil
  | cons h t ih => exact .cons (SqT.of h) ih
theorem rows_same {H H' : Hp} {ts : List Addr} {rs : List Row} (s : Same H H') (h : Paired (IsRow H) ts rs) : Paired (IsRow H') ts rs := Paired.mapP h fun _ _ e => s _ _ e
theorem rows_but {H H' : Hp} {D : Addr} {o : HO} {ts : List Addr} {rs : List Row} (s : SameB D H H') (hD : H D = some o) (n : ∀ xs, o ≠ .tup xs) (h : Paired (IsRow H) ts rs) : Paired (IsRow H') ts rs :=
  Paired.mapP h fun _ _ e => s _ _ (ne_of e hD fun z => n _ z.symm) e
end Fb

namespace Fb
open PySem PySem.Spec PyProof.Rows L2
/-! ### methods, by facts -/
structure FM (K : PySem.W.Frag) (C : Addr) (m qual : Str) (st : Stmt) (f : Addr) : Prop where
  a : PySem.W.findIn K (.ref C) m = some (some (.ref f))
  i : PySem.W.isFn K (.ref f) = true
  l : ∃ (oc : Value) (od : Option Addr) (kV dc pm : Value) (an : Option Addr) (cd ct : Value) (osl : Array (Option Value)), K.lookup f = some ⟨oc, od, .func (PySem.W.fnOf m qual (defArgs st) (defBody st) (defScope st) .none kV dc pm an cd ct), osl⟩ ∧ PySem.W.codeIn K cd qual = true
  k : PySem.W.keepIn K (.ref f) = true
theorem fm_mk {K : PySem.W.Frag} {C : Addr} {m qual : Str} {st : Stmt} {f : Addr} {oc kV dc pm cd ct : Value} {od an : Option Addr} {osl : Array (Option Value)} (a : PySem.W.findIn K (.ref C) m = some (some (.ref f))) (i : PySem.W.isFn K (.ref f) = true)
    (l : K.lookup f = some ⟨oc, od, .func (PySem.W.fnOf m qual (defArgs st) (defBody st) (defScope st) .none kV dc pm an cd ct), osl⟩) (c : PySem.W.codeIn K cd qual = true) (k : PySem.W.keepIn K (.ref f) = true) : FM K C m qual st f := ⟨a, i, ⟨oc, od, kV, dc, pm, an, cd, ct, osl, l, c⟩, k⟩
structure CA (K : PySem.W.Frag) (x : Str) (C : Addr) : Prop where
  a : PySem.W.nsIn K mainGlobals x = some (some (.ref C))
  pg : PySem.W.plainGet K C Str.empty = true
  hd : PySem.W.hasDictIn K C = true
  po : PySem.W.plainOver K C = true
  sa : PySem.W.findIn K (.ref C) "__setattr__" = some (some (.builtin "object.__setattr__"))
  mks : PySem.W.makesIn K C = true
  k : PySem.W.keepIn K (.ref C) = true
theorem CA.cls {K : PySem.W.Frag} {x : Str} {C : Addr} (A : CA K x C) : Cls K C := ⟨A.pg, A.hd, A.po, A.sa⟩
section
variable {Pg : Program} {w : World} {K : PySem.W.Frag} {mg : Str → Option Value} {base h : Heap} {x m qual : Str} {st : Stmt} {f C : Addr} {ps : List Str} {sp : Sp} {k : Nat}
theorem FM.fn (A : FM K C m qual st f) (ok : ∀ fd, Fun K m qual st f fd → FnOk Pg w K mg base (L2N.CX Pg w) k f fd ps sp)
    (hb : ∀ (kV doc pm : Value) (an : Option Addr) (cdv ct : Value) (us : List Value), us.length = ps.length → bindArgs (PySem.W.fnOf m qual (defArgs st) (defBody st) (defScope st) .none kV doc pm an cdv ct) ⟨us, []⟩ = pure (ps.zip us)) :
    ∃ fd, FnOk Pg w K mg base (L2N.CX Pg w) k f fd ps sp ∧ Binds K fd ps [] := by
  obtain ⟨oc, od, kV, dc, pm, an, cd, ct, osl, l, c⟩ := A.l
  have F := fun_mk (st := st) l c A.k
  exact ⟨_, ok _ F, F.binds (ps := ps) hb⟩
theorem FM.dm (A : FM K C m qual st f) (ok : ∀ fd, Fun K m qual st f fd → FnOk Pg w K mg base (L2N.CX Pg w) k f fd ps sp)
    (hb : ∀ (kV doc pm : Value) (an : Option Addr) (cdv ct : Value) (us : List Value), us.length = ps.length → bindArgs (PySem.W.fnOf m qual (defArgs st) (defBody st) (defScope st) .none kV doc pm an cdv ct) ⟨us, []⟩ = pure (ps.zip us)) :
    Dm Pg w K mg base k C m ps sp := by
  obtain ⟨fd, h1, h2⟩ := A.fn ok hb
  exact ⟨f, fd, h1, ⟨A.a, A.i, A.k⟩, h2⟩
theorem FM.dk (A : FM K C "__init__" qual st f) (B : CA K x C) (X : K.In h) (G : h.Ns mainGlobals mg) (ok : ∀ fd, Fun K "__init__" qual st f fd → FnOk Pg w K mg base (L2N.CX Pg w) k f fd ps sp)
    (hb : ∀ (kV doc pm : Value) (an : Option Addr) (cdv ct : Value) (us : List Value), us.length = ps.length → bindArgs (PySem.W.fnOf "__init__" qual (defArgs st) (defBody st) (defScope st) .none kV doc pm an cdv ct) ⟨us, []⟩ = pure (ps.zip us)) :
    Dk Pg w K mg base k x C ps sp := by
  obtain ⟨fd, h1, h2⟩ := A.fn ok hb
  exact ⟨PySem.W.mg_of X G B.a, f, fd, h1, ⟨B.mks, A.a, A.i, B.k⟩, h2⟩
end
end Fb

namespace Fb
open PySem PySem.Spec PyProof.Rows L2 HotX
/-! ### walks while an error is handled -/
section
variable {prog : Program} {w : World} {A : Around} {E : Value → Shared → Prop} {s : Shared}
/-- StopIteration is raised there: a new error, its context the one that is handled; nothing else changes -/
theorem hot_stop {α : Type} {x1 : Addr} {Q : α → Shared → Prop} (hot : HotAt A x1 s.heap)
    (post : ∀ (h' : Heap) (a : Addr), (∀ b o, s.heap.get? b = some o → h'.get? b = some o) → (∃ o, h'.get? a = some o ∧ o.cls = .type "StopIteration") → E (.ref a) { s with heap := h' }) :
    wpAny (model prog w) A (newExc (.type "StopIteration") [] >>= fun e => (raiseNew e : Sem α)) Q E s := by
  obtain ⟨hh, oe, fe, ge, de, ce⟩ := hot
  refine wpAny_bind ?_
  simp only [newExc, newTuple]
  refine wpAny_bind (wpAny_newObj_type ?_ (by size_fits))
  refine wpAny_bind (m := firstArgMember _ _) (wpAny_of_eq (a := Value.none) (by first | rfl | (simp only [firstArgMember]; rfl)) (wpAny_newObj_type ?_ (by size_fits)))
  have g1 := Heap.get?_push_of_some { cls := .type "tuple", data := .seq ([] : List Value).toArray } ge
  refine raiseNew_hot ⟨hh, oe, fe, Heap.get?_push_of_some _ g1, de, ce⟩ (Nat.ne_of_lt (Heap.lt_size g1)) (Heap.get?_push_size _ rfl) rfl (by first | (simp; done) | (simp; omega)) ?_
  refine post _ _ (fun b o e => ?_) ⟨_, Heap.get?_update_self _ (Heap.get?_push_size _ rfl) rfl, rfl⟩
  have g2 := Heap.get?_push_of_some { cls := .type "tuple", data := .seq ([] : List Value).toArray } e
  rw [Heap.get?_update_other _ _ (Nat.ne_of_gt (Heap.lt_size g2))]
  exact Heap.get?_push_of_some _ g2
theorem hot_list_end {it l x1 : Addr} {i : Nat} {its : Array Value} {Q : Option Value → Shared → Prop} (hot : HotAt A x1 s.heap) (iter : s.heap.IsListIter it l i) (lst : s.heap.IsList l its) (last : its[i]? = none)
    (post : ∀ h', Heap.ExtBut it s.heap h' → Q none { s with heap := h' }) : wpAny (model prog w) A (pyNext (.ref it)) Q E s := by
  obtain ⟨hh, oe, fe, ge, de, ce⟩ := hot
  obtain ⟨oi, gi, ci, di⟩ := id iter
  obtain ⟨ol, gl, _, nl, dl⟩ := lst
  have ne : it ≠ x1 := fun z => by
    rw [← z, gi] at ge
    cases ge
    rw [di] at de
    cases de
    simp at ce
  unfold pyNext
  refine wpAny_bind (wpAny_attempt (wpAny_callSpecial?_slot (name := Str.ofString "__next__") iter.typeIs slot_listiter_next (wpAny_call_entry slot_listiter_next iter.typeIs entry_listiter_next ?_ (args_listiter_next _))))
  show wpAny _ _ (field (.ref it) 0 >>= _) _ _ s
  refine wpAny_bind (wpAny_field gi di (x := .ref l) rfl ?_)
  show wpAny _ _ (if (Value.ref l == Value.none) = true then _ else _) _ _ s
  rw [if_neg (show (Value.ref l == Value.none) ≠ true from fun z => Bool.false_ne_true z)]
  show wpAny _ _ (field (.ref it) 1 >>= _) _ _ s
  refine wpAny_bind (wpAny_field gi di (x := .int i 0) rfl ?_)
  show wpAny _ _ (seqItems? (.ref l) >>= _) _ _ s
  refine wpAny_bind (wpAny_seqItems gl dl ?_)
  simp only [Int.toNat_natCast, last]
  refine wpAny_bind (wpAny_rule (wpAny_bind (wpAny_setField gi di (by simp) ?_)))
  refine hot_stop (x1 := x1) ⟨hh, oe, fe, (Heap.get?_update_other _ _ ne).trans ge, de, ce⟩ fun h' a kept isStop => ?_
  refine wpAny_bind (wpAny_isInstance (T := "StopIteration") (b := true) isStop isSubtype_stop (wpAny_pure (post h' fun b o nb e => kept b o ?_)))
  rw [Heap.get?_update_other _ _ (Ne.symm nb)]
  exact e
end
end Fb

namespace Fb
open PySem PySem.Spec PyProof.Rows L2 HotX
/-- an iterator and what it tells, turn by turn, also while an error is handled -/
structure TurnA (Pg : Program) (w : World) (K : PySem.W.Frag) (tg : Expr) (J : It) (own : List Addr) (it : Addr) (st : Nat → Heap → Prop) : Prop where
  mem : it ∈ own
  obj : ∀ n h, st n h → ∀ c ∈ own, ∃ ob, h.get? c = some ob ∧ ∀ v, ob.data ≠ .cell v
  keep : ∀ n h h', st n h → (∀ c ∈ own, ∀ ob, h.get? c = some ob → h'.get? c = some ob) → st n h'
  item : ∀ (X : Cx), X.prog = Pg → X.w = w → X.K = K → ∀ (n : Nat) (pins : List (Addr × Obj)) (z : Shared) (σ : L2.St) (H : Hp) (E : Value → Shared → Prop), Inv X pins σ H z → (∀ c ∈ own, FpOk X pins H c) → st n z.heap → J.go n H →
    wpAny (model Pg w) X.A (pyNext (.ref it)) (fun r z1 => ∃ u, r = some u ∧ wpAny (model Pg w) X.A (letOwnedTupleGo tg (.ref it) u)
      (fun _ z2 => ∃ x H', Inv X pins σ H' z2 ∧ RelV x u ∧ J.yld n H x H' ∧ st (n + 1) z2.heap ∧ ∀ c ∈ own, H' c = none) E z1) E z
  done : ∀ (X : Cx), X.prog = Pg → X.w = w → X.K = K → ∀ (x1 : Addr) (n : Nat) (pins : List (Addr × Obj)) (z : Shared) (σ : L2.St) (H : Hp) (E : Value → Shared → Prop), HotAt X.A x1 z.heap → Inv X pins σ H z → (∀ c ∈ own, FpOk X pins H c) →
    st n z.heap → J.stop n H → wpAny (model Pg w) X.A (pyNext (.ref it)) (fun r z1 => r = none ∧ Inv X pins σ H z1) E z
  self : ∀ (A : Around) (n : Nat) (z : Shared) (Q : Value → Shared → Prop) (E : Value → Shared → Prop), st n z.heap → Q (.ref it) z → wpAny (model Pg w) A (pyIter (.ref it)) Q E z
def PIEA (X : Cx) (pins : List (Addr × Obj)) (σ : L2.St) (tg : Expr) (R : It → Hp → Prop) (itv : Value) (z : Shared) : Prop :=
  ∃ (it : Addr) (own : List Addr) (st : Nat → Heap → Prop) (J : It) (H' : Hp), itv = .ref it ∧ Inv X pins σ H' z ∧ TurnA X.prog X.w X.K tg J own it st ∧ st 0 z.heap ∧ (∀ c ∈ own, FpOk X pins H' c) ∧ R J H'
structure PIA (X : Cx) (tg iter : Expr) (wi : TI) : Prop where
  run : ∀ (pins : List (Addr × Obj)) (z : Shared) (σ : L2.St) (H : Hp) (R : It → Hp → Prop), Inv X pins σ H z → wi σ H R →
    wpAny (model X.prog X.w) X.A (eval iter X.env) (fun v z1 => wpAny (model X.prog X.w) X.A (pyIter v) (PIEA X pins σ tg R) X.xe z1) X.xe z
theorem turn_listA {Pg : Program} {w : World} {K : PySem.W.Frag} {tg : Expr} (l it : Addr) : TurnA Pg w K tg (Itl K l) [it] it (fun n h => h.IsListIter it l n) where
  mem := List.mem_singleton.mpr rfl
  obj := fun n h t c hc => by
    rw [List.mem_singleton.mp hc]
    obtain ⟨ob, g, _, d⟩ := t
    exact ⟨ob, g, fun v z => by rw [d] at z; cases z⟩
  keep := fun n h h' t k => t.at fun ob g => k it (List.mem_singleton.mpr rfl) ob g
  item := fun X e1 e2 e3 n pins z σ H E I free t go => by
    subst e1 e2 e3
    obtain ⟨xs, x, sq, at_⟩ := go
    obtain ⟨us, rel, pl, _⟩ := I.list sq
    obtain ⟨u, hu, ru⟩ := rel.get at_
    have F := free it (List.mem_singleton.mpr rfl)
    refine wpAny_pyNext_list_item t pl.isList (x := u) (by simpa using hu) fun h' t' but => ?_
    have I' : Inv X pins σ H { z with heap := h' } := I.turned (t' := z.toks) (fun c ob nc g => (but.2 c nc).trans g) F.1 F.2.1 F.2.2.2.1 F.2.2.2.2.1 F.2.2.2.2.2
    obtain ⟨ob, g, c, d⟩ := id t'
    exact ⟨u, rfl, go_of (s := { z with heap := h' }) g c d (by decide) ⟨x, H, I', ru, ⟨rfl, fun ys hy => by rw [I.list_inj hy sq]; exact at_⟩, t', fun c hc => (free c hc).1⟩⟩
  done := fun X e1 e2 e3 x1 n pins z σ H E hot I free t stop => by
    subst e1 e2 e3
    obtain ⟨xs, sq, le⟩ := stop
    obtain ⟨us, rel, pl, _⟩ := I.list sq
    have F := free it (List.mem_singleton.mpr rfl)
    have len := rel.length
    exact hot_list_end hot t pl.isList (by simp; omega) fun h' but => ⟨rfl, I.turned (t' := z.toks) (fun c ob nc g => but c ob nc g) F.1 F.2.1 F.2.2.2.1 F.2.2.2.2.1 F.2.2.2.2.2⟩
  self := fun _ _ _ _ _ t q => wpAny_pyIter_listiter t q
theorem turn_rangeA {Pg : Program} {w : World} {K : PySem.W.Frag} {tg : Expr} (it : Addr) (lo : Int) (m : Nat) : TurnA Pg w K tg (Itr lo m) [it] it (fun n h => IsRangeIter h it (lo + (n : Nat) * 1) ((m : Int) - (n : Nat)) 1) where
  mem := List.mem_singleton.mpr rfl
  obj := fun n h t c hc => by
    rw [List.mem_singleton.mp hc]
    exact ⟨_, t, fun v z => nomatch (show Data.fields _ = Data.cell v from z)⟩
  keep := fun n h h' t k => k it (List.mem_singleton.mpr rfl) _ t
  item := fun X e1 e2 e3 n pins z σ H E I free t go => by
    subst e1 e2 e3
    have F := free it (List.mem_singleton.mpr rfl)
    have lt : n < m := go
    refine wpAny_pyNext_range_item t (by omega) fun h' t' but => ?_
    have t2 : IsRangeIter h' it (lo + ((n + 1 : Nat) : Int) * 1) ((m : Int) - ((n + 1 : Nat) : Int)) 1 := by
      rw [show lo + ((n + 1 : Nat) : Int) * 1 = lo + ((n : Nat) : Int) * 1 + 1 by omega, show (m : Int) - ((n + 1 : Nat) : Int) = (m : Int) - ((n : Nat) : Int) - 1 by omega]
      exact t'
    have I' : Inv X pins σ H { z with heap := h', toks := z.toks + 1 } := I.turned (fun c ob nc g => (but.2 c nc).trans g) F.1 F.2.1 F.2.2.2.1 F.2.2.2.2.1 F.2.2.2.2.2
    refine ⟨_, rfl, go_of (s := { z with heap := h', toks := z.toks + 1 }) (n := "range_iterator") t2 rfl rfl (by decide) ⟨.int (lo + n), H, I', ⟨z.toks, ?_⟩, ⟨rfl, rfl⟩, t2, fun c hc => (free c hc).1⟩⟩
    rw [Int.mul_one]
  done := fun X e1 e2 e3 x1 n pins z σ H E hot I free t stop => by
    subst e1 e2 e3
    have F := free it (List.mem_singleton.mpr rfl)
    exact pyNext_range_end_hot hot t (by have : m ≤ n := stop; omega) fun h' k => ⟨rfl, I.turned (t' := z.toks) (fun c ob _ g => k c ob g) F.1 F.2.1 F.2.2.2.1 F.2.2.2.2.1 F.2.2.2.2.2⟩
  self := fun _ _ _ _ _ t q => wpAny_pyIter_rangeiter t q
section
variable {X : Cx} {tg : Expr}
theorem pi_listA {l : Expr} {tl : TE} (hl : PE X l tl) : PIA X tg l (iList X.K tl) := ⟨fun pins z σ H R I wish => by
  refine thn (hl.run pins z σ H _ I wish) fun v z1 got => ?_
  obtain ⟨x, H1, I1, r1, a, rfl, ⟨xs, sq⟩, q⟩ := got
  cases r1
  obtain ⟨us, rel, pl, _⟩ := I1.list sq
  refine wpAny_pyIter_list pl.isList ⟨z1.heap.objs.size, [z1.heap.objs.size], _, _, H1, rfl, I1.kept (t' := z1.toks) fun b o e => Heap.get?_push_of_some _ e, turn_listA a _, ⟨_, Heap.get?_push_size _ rfl, rfl, rfl⟩, fun c hc => ?_, q⟩
  rw [List.mem_singleton.mp hc]
  exact I1.fpOk (Nat.le_refl _) (I1.hok.fresh (Nat.le_refl _))⟩
end
end Fb

namespace Fb
open PySem PySem.Spec PyProof.Rows L2 HotX
section
variable {X : Cx}
/-- a list's comprehension while an error is handled -/
theorem pe_lcA {elt tg iter : Expr} {ifs : List Expr} {sc : Scope} {own : List (Str × Nat)} {pos : Pos} {wi : TI} {g : TG} {tt : TT} {te : TE} (hot : L2H.HotC X) (nd : X.N.Nodup) (hi : PIA X tg iter wi) (ok : BlkOk X.N X.env.scope sc own)
    (hg : ∀ (z : Shared) (H : Hp) (C : Addr) (cl : List (Str × Addr)) (fp : List Addr), PG (X.blk z H sc (compEnvC sc cl C X.env) fp) tg g)
    (ht : ∀ (z : Shared) (H : Hp) (C : Addr) (cl : List (Str × Addr)) (fp : List Addr), PTs (X.blk z H sc (compEnvC sc cl C X.env) fp) ifs tt)
    (he : ∀ (z : Shared) (H : Hp) (C : Addr) (cl : List (Str × Addr)) (fp : List Addr), PE (X.blk z H sc (compEnvC sc cl C X.env) fp) elt te)
    (hs : ∀ x, foldedSetIterable iter X.env x = pure x := by intro _; rfl) : PE X (.ListComp elt [⟨tg, iter, ifs, 0⟩] sc pos) (tLc wi g tt te (own.map (·.2))) := by
  refine ⟨fun pins z0 σ H Q I wish => ?_⟩
  rw [eval_ListComp]
  obtain ⟨p, ⟨hh, fe, de, cx⟩, pm⟩ := hot
  have frees : ∀ y ∈ sc.names, y.2 = .free → ∃ c, X.env.cells.lookup y.1 = some c := fun y hy e => (ok.free y hy e).elim (fun k => I.ok.has _ (.inl k)) fun k => I.ok.has _ (.inr k)
  refine wpAny_comprehension_free rfl hs (closure_ok frees) ok.kind (fun y hy e => by rw [ok.uniq y hy, e]) (thn (hi.run pins z0 σ H _ I wish) fun xv z1 hx => thn hx fun itv z2 got => ?_)
  obtain ⟨it, fp, tn, J, H2, rfl, I2, T, t2, f2, q⟩ := got
  refine wpAny_newObj_type (newEnv_comp ?_) (Nat.zero_le _)
  generalize eD : z2.heap.objs.size = D
  have freeD : H2 D = none := I2.hok.fresh (Nat.le_of_eq eD)
  obtain ⟨W, ⟨m0, w0⟩, turn⟩ := q D freeD
  generalize e3 : ({ z2 with heap := z2.heap.push { cls := .type "list", data := .seq ([] : List Value).toArray } } : Shared) = z3
  have I3 : Inv X pins σ (upd H2 D (.lst [])) z3 := by
    rw [← e3]
    refine I2.laid (t' := z2.toks) (fun b o e => Heap.get?_push_of_some _ e) (Nat.le_of_eq eD) ⟨Nat.zero_le _, [], 0, .nil, ?_⟩
    rw [← eD]
    exact Heap.get?_push_size _ rfl
  have h3 : z3.heap = z2.heap.push { cls := .type "list", data := .seq ([] : List Value).toArray } := by rw [← e3]
  have below : ∀ c ∈ fp, c < z2.heap.objs.size := fun c hc => by
    obtain ⟨ob, e, _⟩ := T.obj _ _ t2 c hc
    exact Heap.lt_size e
  have f3 : ∀ c ∈ fp, FpOk X pins (upd H2 D (.lst [])) c ∧ c < z3.heap.objs.size := fun c hc => by
    have lt := below c hc
    refine ⟨⟨?_, (f2 c hc).2⟩, by rw [h3, Heap.size_push]; exact Nat.lt_succ_of_lt lt⟩
    rw [upd_ne (by rw [← eD]; exact Nat.ne_of_lt lt)]
    exact (f2 c hc).1
  have t3 : tn 0 z3.heap := T.keep _ _ _ t2 fun c _ o e => by rw [h3]; exact Heap.get?_push_of_some _ e
  have I4 := block_start I3 ok nd f3
  -- the error stands where the block begins
  have P3 := I3.pin p (List.mem_append_left _ pm)
  have pstk : p.1 ∉ frs X.stack := fun z => (List.mem_cons.mp (I3.stkSub p.1 z)).elim P3.2.2.1 P3.2.2.2.1
  have pfp : p.1 ∉ fp := fun z => (f3 p.1 z).1.2.2.2.2.2 p (List.mem_append_left _ pm) rfl
  have pg := hg z3 (upd H2 D (.lst [])) z3.heap.objs.size (cellsFrom (z3.heap.objs.size + 1) sc.names (cloFrom X.env.cells sc.names [])) fp
  have pt := ht z3 (upd H2 D (.lst [])) z3.heap.objs.size (cellsFrom (z3.heap.objs.size + 1) sc.names (cloFrom X.env.cells sc.names [])) fp
  have pe := he z3 (upd H2 D (.lst [])) z3.heap.objs.size (cellsFrom (z3.heap.objs.size + 1) sc.names (cloFrom X.env.cells sc.names [])) fp
  show codeAny _ _ (.compStart (.ListComp elt [⟨tg, iter, ifs, 0⟩] sc pos) 0 (.ref it) (.ref D) (compEnvC sc (cellsFrom (z3.heap.objs.size + 1) sc.names (cloFrom X.env.cells sc.names [])) z3.heap.objs.size X.env)) (compPost (model X.prog X.w) X.A X.xe none _ (.ref D) z3.heap.objs.size)
    { z3 with heap := pushCells (z3.heap.push { cls := .type "dict", data := .dict #[] }) sc.names }
  have none3 : ∀ c ∈ fp, (upd H2 D (.lst [])) c = none := fun c hc => (f3 c hc).1.1
  generalize ece : compEnvC sc (cellsFrom (z3.heap.objs.size + 1) sc.names (cloFrom X.env.cells sc.names [])) z3.heap.objs.size X.env = ce at I4 pg pt pe ⊢
  have cL : ce.locals = z3.heap.objs.size := by rw [← ece]; rfl
  generalize eH : upd H2 D (.lst []) = H3 at I3 I4 pg pt pe w0 none3 f3 P3
  generalize e4 : ({ z3 with heap := pushCells (z3.heap.push { cls := .type "dict", data := .dict #[] }) sc.names } : Shared) = z4 at I4 ⊢
  have t4 : tn 0 z4.heap := T.keep _ _ _ t3 fun c _ o e => by rw [← e4]; exact pushCells_keeps _ _ _ _ (Heap.get?_push_of_some _ e)
  have hotB : ∀ {σ' : L2.St} {H' : Hp} {z : Shared} {ps : List (Addr × Obj)}, Inv (X.blk z3 H3 sc ce fp) ps σ' H' z → HotAt X.A p.1 z.heap := fun {σ' H' z ps} I' => ⟨hh, p.2, fe, I'.base.keep p.1 p.2 P3.1 P3.2.1 pstk pfp, de, cx⟩
  have stay : ∀ {σ' : L2.St} {H' : Hp} {z : Shared}, Inv (X.blk z3 H3 sc ce fp) [] σ' H' z → (∀ c ∈ fp, H' c = none) → ∀ c ∈ fp, FpOk (X.blk z3 H3 sc ce fp) [] H' c := fun {σ' H' z} I' hn c hc =>
    ⟨hn c hc, (I'.ok.exf c hc).1, I'.ok.exfs c hc, .inl hc, fun y a e => (I'.ok.exf c hc).2 y a e, fun r hr => nomatch (show r ∈ ([] : List (Addr × Obj)) from hr)⟩
  refine codeAny_compStart_list ?_ (T.self X.A 0 _ _ _ t4 ?_)
  all_goals
    refine compLoop_any (fun k z => ∃ n H', Inv (X.blk z3 H3 sc ce fp) [] (wipe σ (own.map (·.2))) H' z ∧ tn n z.heap ∧ (∀ c ∈ fp, H' c = none) ∧ W n k H') ?_ m0 ⟨0, H3, I4, t4, none3, w0⟩
    rintro k z5 ⟨n, H5, I5, t5, none5, w5⟩
    rcases turn n k H5 w5 with ⟨stop, qq⟩ | ⟨go, Nx, dec, step⟩
    · refine thnF (T.done (X.blk z3 H3 sc ce fp) rfl rfl rfl p.1 n [] z5 _ H5 (fun _ _ => False) (hotB I5) I5 (stay I5 none5) t5 stop) fun r z6 got => ?_
      obtain ⟨rfl, I6⟩ := got
      have I7 : Inv X pins σ H5 z6 := I3.call' (ch := fp) I6.os I6.base I6.hok I6.bare fun c hc => ⟨(f3 c hc).1.2.2.2.1, (f3 c hc).1.2.1, (f3 c hc).1.2.2.2.2.1, (f3 c hc).1.2.2.2.2.2⟩
      have nC : H5 z3.heap.objs.size = none := by
        have y : H5 ce.locals = none := I6.free
        rw [cL] at y
        exact y
      obtain ⟨m, hn, _⟩ := I6.loc
      have hn : z6.heap.Ns ce.locals m := hn
      rw [cL] at hn
      obtain ⟨a0, a1, a2, a3, a4, a5⟩ := I3.fpOk (Nat.le_refl _) nC
      exact ⟨m, hn, fun h'' sb => ⟨.ref D, H5, I7.turned (t' := z6.toks) (fun b o nb e => (sb.2 b nb).trans e) a0 a1 a3 a4 a5, rfl, qq⟩⟩
    · refine thnF (T.item (X.blk z3 H3 sc ce fp) rfl rfl rfl n [] z5 _ H5 (fun _ _ => False) I5 (stay I5 none5) t5 go) fun r z6 got => ?_
      obtain ⟨u, rfl, h6⟩ := got
      refine thnF h6 fun _ z7 got => ?_
      obtain ⟨x, H7, I7, r7, y7, t7, none7⟩ := got
      refine thnF (pg.run _ z7 _ H7 x u _ (I7.pinned (stay I7 none7) (T.obj _ _ t7)) r7 (step x H7 y7)) fun _ z8 got => ?_
      obtain ⟨σ8, H8, I8, wiped, q8⟩ := got
      refine thnF (pt.run _ z8 σ8 H8 _ I8 q8) fun b z9 got => ?_
      obtain ⟨H9, I9, q9⟩ := got
      have again : ∀ {z : Shared} {H' : Hp}, Inv (X.blk z3 H3 sc ce fp) ([] ++ pinsAt fp z7.heap) σ8 H' z → Nx H' → ∃ m, m < k ∧ ∃ n H', Inv (X.blk z3 H3 sc ce fp) [] (wipe σ (own.map (·.2))) H' z ∧ tn n z.heap ∧ (∀ c ∈ fp, H' c = none) ∧ W n m H' := fun {z H'} I' nx => by
        obtain ⟨m', lt, w'⟩ := dec H' nx
        have same : ∀ c ∈ fp, ∀ o, z7.heap.get? c = some o → z.heap.get? c = some o ∧ H' c = none := fun c hc o e =>
          let y := I'.pin (c, o) (List.mem_append_right _ (List.mem_append_right _ (mem_pinsAt hc e)))
          ⟨y.1, y.2.1⟩
        refine ⟨m', lt, n + 1, H', (I'.unpinned (pins := [])).weak (by rw [← wiped, wipe_length]) (fun j v e => ?_), T.keep _ _ _ t7 fun c hc o e => (same c hc o e).1, fun c hc => ?_, w'⟩
        · rw [← wiped] at e
          exact (wipe_some e).1
        · obtain ⟨o, e, _⟩ := T.obj _ _ t7 c hc
          exact (same c hc o e).2
      cases b with
      | false =>
        rw [if_neg Bool.false_ne_true] at q9 ⊢
        exact again I9 q9
      | true =>
        rw [if_pos rfl] at q9 ⊢
        refine thnF (pe.run _ z9 σ8 H9 _ I9 q9) fun y z10 got => ?_
        obtain ⟨yv, H10, I10, r10, acc, hD, room, nx⟩ := got
        exact app_ok (X := X.blk z3 H3 sc ce fp) I10 hD room r10 fun z11 I11 => again I11 nx
end
end Fb

namespace Fb
open PySem PySem.Spec PyProof.Rows L2 HotX
section
variable {prog : Program} {w : World} {A : Around} {E : Value → Shared → Prop} {s : Shared}
theorem walk_listA {x1 I ax : Addr} {ob : Obj} {fe : Array Value} (hh : A.handled = some (.ref x1)) (de : ob.data = .fields fe) (cx : fe[2]? = some .none) (ne : ax ≠ I) (its : Array Value) :
    Walks prog w A I [I, ax, x1] [I] its.size (fun i v => its[i]? = some v) (fun i h => h.IsListIter I ax i ∧ h.IsList ax its ∧ h.get? x1 = some ob) where
  sub := fun b hb => by rw [List.mem_singleton.mp hb]; exact List.mem_cons_self
  frame := fun _ _ _ t k => ⟨t.1.at fun o e => k I (by simp) o e, t.2.1.at fun o e => k ax (by simp) o e, k x1 (by simp) _ t.2.2⟩
  item := fun i s Q E lt t post => by
    obtain ⟨t1, t2, t3⟩ := t
    have nx : x1 ≠ I := fun z => by
      obtain ⟨oi, gi, _, di⟩ := t1
      rw [z, gi] at t3
      cases t3
      rw [di] at de
      cases de
      simp at cx
    refine wpAny_pyNext_list_item t1 t2 (x := its[i]) (by simp [lt]) fun h' t' but => ?_
    exact post _ h' s.toks (by simp [lt]) ⟨t', t2.extBut but.extBut ne, but.extBut x1 ob nx t3⟩ fun b o nb e => but.extBut b o (fun z => nb (by simp [z])) e
  done := fun s Q E t post => hot_list_end ⟨hh, ob, fe, t.2.2, de, cx⟩ t.1 t.2.1 (by simp) fun h' but => post h' s.toks fun b o nb e => but b o (fun z => nb (by simp [z])) e
  self := fun _ _ _ _ t q => wpAny_pyIter_listiter t.1 q
end
section
variable {X : Cx}
theorem cr_sumA (c : L2H.HotC X) : CallR X (.builtin "sum") (rSum X.K) := fun pins s σ H vs us Q I r wish => by
  obtain ⟨a, ns, rfl, sq, q⟩ := wish
  obtain ⟨p, ⟨hh, fe, de, cx⟩, pm⟩ := c
  have gp := (I.pin p (List.mem_append_left _ pm)).1
  obtain ⟨its, rv, hl, _⟩ := I.list sq
  rw [Vals.ref1 r]
  have hi := rv.ints
  obtain ⟨xs, e⟩ := hi.allInts.items
  have hn : numsOf (intItems xs).toList = ns := by rw [← e]; exact hi.numsOf
  rw [nums_intItems] at hn
  have hl' := hl.isList
  rw [e] at hl'
  have kept : ∀ {h' : Heap} {tk : Nat} {t' : Tok}, (∀ b o, s.heap.get? b = some o → h'.get? b = some o) → EP X pins σ Q (.int ns.sum t') { s with heap := h', toks := tk } := fun hk => ⟨.int _, H, I.kept hk, ⟨_, rfl⟩, q⟩
  refine call_sum_walkG (iter_intList hl' fun s2 e2 st hfp hlI => ?_)
  subst e2
  refine ⟨_, _, _, _, _, _, numAt xs, rfl, walk_listA (A := X.A.in1) (ob := p.2) hh de cx hlI (intItems xs), ⟨st.1, st.2, Heap.get?_push_of_some _ gp⟩, fun b hb => ?_, fun _ _ => intItems_at, fun h' tk t' hk => ?_⟩
  · rcases List.mem_cons.mp hb with z | hb
    · exact hfp b (by rw [z]; exact List.mem_cons_self)
    · rcases List.mem_cons.mp hb with z | hb
      · exact hfp b (by rw [z]; simp)
      · rw [List.mem_singleton.mp hb]
        exact Heap.lt_size (Heap.get?_push_of_some _ gp)
  · have k2 := kept (h' := h') (tk := tk) (t' := t') (old_kept hk)
    rw [← hn] at k2
    rw [show preSum (numAt xs) (intItems xs).size = (xs.toList.map (·.1)).sum from by rw [preSum_eq, List.take_of_length_le (by simp [intItems])]]
    exact k2
/-! ### an error in the hands of a def -/
theorem call_isP {p : Addr × Obj} {D : Addr} (hp : p ∈ X.pn) (hz : Zc (.ref D) none p.2) (hf : ∃ vs, p.2.data = .fields vs) : CallR X (.builtin "isinstance") (rIsG X.K p.1 (.ref D) none) := fun pins s σ H xs us Q I r wish => by
  obtain ⟨D', c, cv, b, rfl, e2, _, C, hcv, e, q⟩ := wish
  cases e2
  cases r with
  | cons rx rr =>
    cases rr with
    | cons rt rr =>
      cases rr
      cases rx
      have ec := hcv _ rt
      subst ec
      obtain ⟨get, _⟩ := I.pin p (List.mem_append_left _ hp)
      obtain ⟨vs, hv⟩ := hf
      have J : PySem.W.InstAt s.heap p.1 p.2 D none := by
        obtain ⟨ad, oc, od, oda, osl⟩ := p
        obtain ⟨h1, h2⟩ := hz
        dsimp only at h1 h2 hv get ⊢
        subst h1 h2 hv
        exact ⟨get, rfl, rfl, trivial⟩
      exact PySem.W.kia_one (PySem.W.handS_kitx_exc C.hg C.hk C.hs C.hd C.ha C.hn C.ht C.hm) I.kIn J e (fun z => nomatch z) fun tk => ⟨.bl b, H, I.kept (t' := tk) fun _ _ z => z, rfl, q⟩
end
/-- an error of the class C with no context -/
structure Err1 (C : Addr) (p : Addr × Obj) : Prop where
  zc : Zc (.ref C) none p.2
  ctx : ∃ fs : Array Value, p.2.data = .fields fs ∧ fs[2]? = some .none
theorem Err1.fields {C : Addr} {p : Addr × Obj} (e : Err1 C p) : ∃ vs, p.2.data = .fields vs := let ⟨fs, h, _⟩ := e.ctx; ⟨fs, h⟩
/-- what a def promises that is called while the error at e, of the class C, is handled -/
abbrev SpE := Addr → Addr → Sp
structure FnE (Pg : Program) (w : World) (K : PySem.W.Frag) (mg : Str → Option Value) (base : Heap) (k : Nat) (f : Addr) (fd : FuncData) (ps : List Str) (sp : SpE) : Prop where
  len : ∀ e C vs H Q E, sp e C vs H Q E → vs.length = ps.length
  run : ∀ (A : Around) (outer : List Env) (s : Shared) (H : Hp) (args : Args) (us : List Value) (vs : List V) (Q : VK) (E : XK) (p : Addr × Obj) (C : Addr), L2H.RoomH k A → A.handled = some (.ref p.1) → Err1 C p → L2H.PinOk outer H s p → Env0 Pg w K mg base A outer s H →
    BindsTo s fd args (ps.zip us) → Vals vs us → sp p.1 C vs H Q E → codeAny (model Pg w) A (.call (.ref f) args) (CR (L2N.CX Pg w) outer Pg w H s Q E) s
section
variable {Pg : Program} {w : World} {K : PySem.W.Frag} {mg : Str → Option Value} {base : Heap}
theorem _root_.L2.Fun.okN {x qual : Str} {st : Stmt} {f : Addr} {fd : FuncData} {N ps : List Str} {k : Nat} {sp : Sp} (F : Fun K x qual st f fd) (S : FnScope N ps (defScope st)) (len : ∀ vs H Q E, sp vs H Q E → vs.length = ps.length)
    (hbody : ∀ (cdv : Value) (A : Around) (outer : List Env) (s : Shared) (H : Hp) (vs : List V) (Q : VK) (E : XK), Room k (A.deeper (envOfC qual (defScope st) s.heap.objs.size f cdv)) → sp vs H Q E →
      ∃ t, PSs (cxOf (L2N.CX Pg w) Pg w K mg base N qual (defScope st) f cdv A outer s H E) (defBody st) t ∧ t { nx := fun _ H' => Q .non H', rt := Q } (L2.start N vs) H) : FnOk Pg w K mg base (L2N.CX Pg w) (k + 1) f fd ps sp := by
  obtain ⟨oc, od, kV, doc, pm, an, cdv, ct, osl, rfl, lk, code⟩ := F.ex
  exact fn_of lk code S len fun A outer s H vs Q E room wish => hbody cdv A outer s H vs Q E room wish
theorem FunC.okN {x qual : Str} {st : Stmt} {f c : Addr} {fd : FuncData} {N ps : List Str} {k : Nat} {sp : Sp} (F : FunC K x qual st f fd c) (S : FnScope N ps (defScope st)) (len : ∀ vs H Q E, sp vs H Q E → vs.length = ps.length)
    (hbody : ∀ (A : Around) (outer : List Env) (s : Shared) (H : Hp) (vs : List V) (Q : VK) (E : XK), Room k (A.deeper (envOfC qual (defScope st) s.heap.objs.size f (.ref c))) → sp vs H Q E →
      ∃ t, PSs (cxOf (L2N.CX Pg w) Pg w K mg base N qual (defScope st) f (.ref c) A outer s H E) (defBody st) t ∧ t { nx := fun _ H' => Q .non H', rt := Q } (L2.start N vs) H) : FnOk Pg w K mg base (L2N.CX Pg w) (k + 1) f fd ps sp := F.okX S len hbody
theorem okE {x qual : Str} {st : Stmt} {f : Addr} {fd : FuncData} {N ps : List Str} {k : Nat} {sp : SpE} (F : Fun K x qual st f fd) (S : FnScope N ps (defScope st)) (len : ∀ e C vs H Q E, sp e C vs H Q E → vs.length = ps.length)
    (hbody : ∀ (cdv : Value) (A : Around) (outer : List Env) (s : Shared) (H : Hp) (vs : List V) (Q : VK) (E : XK) (p : Addr × Obj) (C : Addr), A.handled = some (.ref p.1) → Err1 C p → L2H.RoomH k (A.deeper (envOfC qual (defScope st) s.heap.objs.size f cdv)) → sp p.1 C vs H Q E →
      ∃ t, PSs (L2H.cxH (L2N.CX Pg w) Pg w K mg base N qual (defScope st) f cdv A outer s H E p) (defBody st) t ∧ t { nx := fun _ H' => Q .non H', rt := Q } (L2.start N vs) H) : FnE Pg w K mg base (k + 1) f fd ps sp := by
  obtain ⟨oc, od, kV, doc, pm, an, cdv, ct, osl, rfl, lk, code⟩ := F.ex
  refine ⟨len, fun A outer s H args us vs Q E p C room hh er pin env binds rel wish => ?_⟩
  have ln := len _ _ _ _ _ _ wish
  have down : ∀ b o, base.get? b = some o → s.heap.get? b = some o := fun b o e => (env.bs b o e).1
  have KX : K.In s.heap := env.mod.kin.keeps down
  have kinds : ∀ y ∈ ps.zip us, (defScope st).names.lookup y.1 = some .local ∨ ((defScope st).names.lookup y.1 = some .cell ∧ ((cellsFrom (s.heap.objs.size + 1) (defScope st).names []).lookup y.1).isSome = true) := fun y hy =>
    (S.par y.1 (List.of_mem_zip (a := y.1) (b := y.2) hy).1).imp id fun q => ⟨q, PySem.W.cellsFrom_some _ _ _ (.inl q)⟩
  refine codeAny_call_function room.depth (KX _ _ lk) rfl S.co S.gen rfl (PySem.W.codeRec_of KX code) (binds _ _ _ _ (wpAny_newFunctionEnv_cells S.kind kinds fun env' he s1 x => ?_))
  subst he
  refine ⟨(env.mod.nolimit.keeps down).keeps x.toInCall.keep, codeAny_func ?_⟩
  obtain ⟨t, ht, got⟩ := hbody cdv A outer s H vs Q E p C hh er (room.deeper _) wish
  have I : Inv (L2H.cxH (L2N.CX Pg w) Pg w K mg base N qual (defScope st) f cdv A outer s H E p) [] (L2.start N vs) H s1 := L2H.inv_startH S pin env ln rel x
  refine wpAny_mono (ht.run [] s1 (L2.start N vs) H _ I got) (fun fl s' hs => ?_) fun _ _ hs => hs
  cases fl with
  | ret u => obtain ⟨v, _, H', J, rv, q⟩ := hs; exact ⟨v, H', J.os, J.bare, J.base, J.hok, rv, q⟩
  | next => obtain ⟨_, H', J, q⟩ := hs; exact ⟨V.non, H', J.os, J.bare, J.base, J.hok, rfl, q⟩
  | brk => obtain ⟨_, _, _, q⟩ := hs; exact q.elim
  | cont => obtain ⟨_, _, _, q⟩ := hs; exact q.elim
end
structure DnE (Pg : Program) (w : World) (K : PySem.W.Frag) (mg : Str → Option Value) (base : Heap) (k : Nat) (x : Str) (ps : List Str) (sp : SpE) : Prop where
  ex : ∃ f fd, FnE Pg w K mg base k f fd ps sp ∧ mg x = some (.ref f) ∧ PySem.W.keepIn K (.ref f) = true ∧ Binds K fd ps []
section
variable {X : Cx} {k : Nat} {x : Str} {ps : List Str} {sp : SpE} {p pos : Pos} {e : Expr} {es : List Expr} {t : TA} {E : L2.St → XK}
def tCallE (a C : Addr) (sp : SpE) (E : L2.St → XK) (t : TA) : TE := tCallS (fun vs H Q Ex => sp a C vs H Q Ex) E t
/-- f(e, ..) while the error q is handled -/
theorem pe_fnE1 {q : Addr × Obj} {C : Addr} (D : DnE X.prog X.w X.K X.mg X.base k x ps sp) (hr : L2H.RoomH k X.A) (hq : q ∈ X.pn) (hh : X.A.handled = some (.ref q.1)) (er : Err1 C q) (hx : ∀ σ, PassesAt (L2N.CX X.prog X.w) X σ (E σ)) (ha : PA X (e :: es) t) (hg : Gl X x := by rfl)
    (hdb : (x == ("__debug__" : Str)) = false := by decide) (he : starEach (e :: es) X.env = (false, eval e X.env) :: starEach es X.env := by rfl) (hpl : (backTo pos (starEach es X.env)).any (·.1) = false := by rfl) :
    PE X (.Call (.Name x p) (e :: es) [] pos) (tCallE q.1 C sp E t) := by
  obtain ⟨f, fd, F, hm, hk, hb⟩ := D.ex
  refine ⟨fun pins s σ H Q I wish => ?_⟩
  refine wpAny_Call_Name_kw (ld_glob I hg hm (PySem.W.callWith_K (h₀ := X.base) I.ok.mod.kin hk (thn (ha.run pos pins s σ H _ I wish) fun us s1 got => ?_) he hpl) hdb)
  obtain ⟨vs, H1, I1, r, w1⟩ := got
  refine ⟨I1.kIn, ?_⟩
  have ln : us.length = ps.length := by rw [← r.length]; exact F.len _ _ _ _ _ _ w1
  have b := hb s1 us I1.kIn (by rw [List.append_nil]; exact ln)
  rw [List.append_nil] at b
  have P1 := I1.pin q (List.mem_append_left _ hq)
  refine wpAny_call (codeAny_mono (F.run X.A X.stack s1 H1 ⟨us, []⟩ us vs Q (E σ) q C hr hh er ⟨P1.1, P1.2.1, fun hm => (List.mem_cons.mp (I1.stkSub q.1 hm)).elim P1.2.2.1 P1.2.2.2.1, P1.2.2.2.2⟩ I1.env0 b r w1) fun r s' hq => ?_)
  cases r with
  | error er => exact hx σ pins H1 s1 er s' I1 hq
  | ok fl =>
    cases fl with
    | ret u => exact I1.after hq
    | next => exact hq.elim
    | brk => exact hq.elim
    | cont => exact hq.elim
/-- .. in the suite, the error's class open -/
theorem pe_fnEG {Y : Cx} {a : Addr} {oe : Obj} {cls : Value} {d : Option Addr} {pn : List (Addr × Obj)} (D : DnE Y.prog Y.w Y.K Y.mg Y.base k x ps sp) (hr : L2H.RoomH k (Y.suite a ((a, oe) :: pn)).A) (hz : L2N.Zn cls d oe) (hf : ∃ vs, oe.data = .fields vs)
    (hx : ∀ σ, PassesAt (L2N.CX Y.prog Y.w) (Y.suite a ((a, oe) :: pn)) σ (E σ)) (ha : PA (Y.suite a ((a, oe) :: pn)) (e :: es) t) (hg : Gl (Y.suite a ((a, oe) :: pn)) x := by rfl)
    (hdb : (x == ("__debug__" : Str)) = false := by decide) (he : starEach (e :: es) Y.env = (false, eval e Y.env) :: starEach es Y.env := by rfl) (hpl : (backTo pos (starEach es Y.env)).any (·.1) = false := by rfl) :
    PE (Y.suite a ((a, oe) :: pn)) (.Call (.Name x p) (e :: es) [] pos) (fun σ H Q => ∃ C, cls = .ref C ∧ d = none ∧ tCallE a C sp E t σ H Q) := by
  refine ⟨fun pins s σ H Q I wish => ?_⟩
  obtain ⟨C, rfl, rfl, wish⟩ := wish
  obtain ⟨vs, hv⟩ := hf
  exact (pe_fnE1 (X := Y.suite a ((a, oe) :: pn)) (q := (a, oe)) D hr List.mem_cons_self rfl ⟨hz.zc, vs, hv, hz.2.2 vs hv⟩ hx ha hg hdb he hpl).run pins s σ H Q I wish
end
end Fb

namespace Fb
open PySem PySem.Spec PyProof.Rows L2
/-! ### [f(x) for x in xs if p(x)] -/
section
variable {K : PySem.W.Frag} {tt : TT} {te : TE} {vs : List Nat} {σ : L2.St} {H1 : Hp} {D : Addr} {Qd : Hp → Prop}
def pick (pf : Nat → Bool) (f : Nat → V) (n : Nat) : List V := ((List.range n).filter pf).map f
theorem pick_succ (pf : Nat → Bool) (f : Nat → V) (n : Nat) : pick pf f (n + 1) = if pf n = true then pick pf f n ++ [f n] else pick pf f n := by
  unfold pick
  rw [List.range_succ, List.filter_append]
  cases h : pf n with
  | true => rw [if_pos rfl]; simp [h]
  | false => rw [if_neg Bool.false_ne_true]; simp [h]
theorem pick_le (pf : Nat → Bool) (f : Nat → V) (n : Nat) : (pick pf f n).length ≤ n := by
  unfold pick
  rw [List.length_map]
  exact Nat.le_trans (List.length_filter_le _ _) (by simp)
theorem lc_pick {a : Addr} {xs : List V} {j : Nat} (pf : Nat → Bool) (f : Nat → V) (hD : H1 D = none) (hx : SqL K H1 a xs) (hn : xs.length ≤ 90000) (hw : ∀ v, wipe ((wipe σ vs).set j (some v)) vs = wipe σ vs)
    (ht : ∀ i x H, xs[i]? = some x → Same H1 H → ∀ Q : Bool → Hp → Prop, (∀ H', Same H H' → Q (pf i) H') → tt ((wipe σ vs).set j (some x)) H Q)
    (he : ∀ i x H, xs[i]? = some x → Same H1 H → ∀ Q : VK, (∀ H', Same H H' → Q (f i) H') → te ((wipe σ vs).set j (some x)) H Q)
    (hd : ∀ H, Same H1 H → H D = some (.lst (pick pf f xs.length)) → Qd H) :
    ∃ W : Nat → Nat → Hp → Prop, (∃ m, W 0 m (upd H1 D (.lst []))) ∧ ∀ i m H, W i m H →
      ((Itl K a).stop i H ∧ Qd H) ∨ ((Itl K a).go i H ∧ ∃ Nx : Hp → Prop, (∀ H', Nx H' → ∃ m', m' < m ∧ W (i + 1) m' H') ∧ ∀ x H', (Itl K a).yld i H x H' → (gName j) x (wipe σ vs) H' fun σ2 H2 => wipe σ2 vs = wipe σ vs ∧ tt σ2 H2 fun b H3 =>
        if b = true then te σ2 H3 fun y H4 => ∃ acc, H4 D = some (.lst acc) ∧ acc.length < sizeLine ∧ Nx (upd H4 D (.lst (acc ++ [y]))) else Nx H3) := by
  refine ⟨fun i m H => m = xs.length - i ∧ i ≤ xs.length ∧ Same H1 H ∧ H D = some (.lst (pick pf f i)), ⟨xs.length, by simp, Nat.zero_le _, same_new hD, upd_same⟩, ?_⟩
  rintro i m H ⟨rfl, hi, s1, hl⟩
  by_cases hlt : i < xs.length
  · refine .inr ⟨⟨xs, xs[i], s1.seq hx, List.getElem?_eq_getElem hlt⟩, fun H' => Same H1 H' ∧ H' D = some (.lst (pick pf f (i + 1))), fun H' p' => ⟨xs.length - (i + 1), by omega, rfl, hlt, p'⟩, fun y H' yl => ?_⟩
    obtain ⟨rfl, hy⟩ := yl
    have hy' := hy xs (s1.seq hx)
    refine ⟨hw _, ht i y H' hy' s1 _ fun H2 s2 => ?_⟩
    have e := pick_succ pf f i
    have hl2 := s2 _ _ hl
    cases hp : pf i with
    | true =>
      refine iteT (he i y H2 hy' (Same.trans s1 s2) _ fun H3 s3 => ⟨_, s3 _ _ hl2, szlt ?_, same_mut (Same.trans (Same.trans s1 s2) s3) hD, ?_⟩)
      · have := pick_le pf f i; omega
      · rw [upd_same, e, hp, if_pos rfl]
    | false =>
      refine iteF ⟨Same.trans s1 s2, ?_⟩
      rw [e, hp, if_neg Bool.false_ne_true]
      exact hl2
  · have e : i = xs.length := by omega
    subst e
    exact .inl ⟨⟨xs, s1.seq hx, Nat.le_refl _⟩, hd H s1 hl⟩
end
theorem pick_nil {pf : Nat → Bool} {f : Nat → V} {n : Nat} : (pick pf f n).isEmpty = true ↔ ∀ i, i < n → pf i = false := by
  unfold pick
  rw [List.isEmpty_iff, List.map_eq_nil_iff, List.filter_eq_nil_iff]
  exact ⟨fun h i hi => by simpa using h i (List.mem_range.mpr hi), fun h i hi => by simp [h i (List.mem_range.mp hi)]⟩
/-! ### the law's other places -/
def fa (k : Nat) : Str := Str.ofString "aa" ++ ⟨#[k % 25 + 97]⟩
def fb (k : Nat) : Str := Str.ofString "bb" ++ ⟨#[k / 25 + 97]⟩
theorem fa_tl (k : Nat) : (fa k).cps.toList = [97, 97, k % 25 + 97] := by
  have e : (Str.ofString "aa").cps.toList = [97, 97] := by decide +kernel
  have h : (fa k).cps.toList = (Str.ofString "aa").cps.toList ++ [k % 25 + 97] := TL.tl_append _ _
  rw [h, e]; rfl
theorem fb_tl (k : Nat) : (fb k).cps.toList = [98, 98, k / 25 + 97] := by
  have e : (Str.ofString "bb").cps.toList = [98, 98] := by decide +kernel
  have h : (fb k).cps.toList = (Str.ofString "bb").cps.toList ++ [k / 25 + 97] := TL.tl_append _ _
  rw [h, e]; rfl
theorem isP_three {z : Str} {x y u : Nat} (h : z.cps.toList = [x, y, u]) (hx : letter x = true) (hy : letter y = true) (hu : letter u = true) : isP (.str z) = true := by
  have hl : z.length = 3 := by rw [len_tl, h]; rfl
  show (decide (1 ≤ z.length) && decide (z.length ≤ 12) && z.cps.toList.all letter) = true
  rw [hl, h]
  simp [hx, hy, hu]
theorem let_ok {n : Nat} (h1 : 97 ≤ n) (h2 : n ≤ 122) : letter n = true := by
  unfold letter
  rw [decide_eq_true h1, decide_eq_true h2]; rfl
theorem fa_isP (k : Nat) : isP (.str (fa k)) = true := isP_three (fa_tl k) (by decide) (by decide) (let_ok (by omega) (by omega))
theorem fb_isP {k : Nat} (h : k < 175) : isP (.str (fb k)) = true := isP_three (fb_tl k) (by decide) (by decide) (let_ok (by omega) (by omega))
theorem fa_ne_fb (k l : Nat) : fa k ≠ fb l := fun e => by
  have h := congrArg (fun z : Str => z.cps.toList) e
  simp only [fa_tl, fb_tl] at h
  have := (List.cons.inj h).1
  omega
theorem f_inj {k l : Nat} (h1 : fa k = fa l) (h2 : fb k = fb l) : k = l := by
  have e1 := congrArg (fun z : Str => z.cps.toList) h1
  have e2 := congrArg (fun z : Str => z.cps.toList) h2
  simp only [fa_tl, fb_tl, List.cons.injEq, true_and, and_true] at e1 e2
  omega
theorem no_aabb {c : Int} {k l : Nat} : ¬ (fa k = nameOf c 20 ∧ fb l = nameOf c 21) := by
  rintro ⟨h1, h2⟩
  have e1 : [97, 97, k % 25 + 97] = nameL c 20 := by rw [← fa_tl, h1]; rfl
  have e2 : [98, 98, l / 25 + 97] = nameL c 21 := by rw [← fb_tl, h2]; rfl
  cases ho : nmOne c with
  | true =>
    have z := congrArg List.length e1
    unfold nameL at z
    rw [ho, if_pos rfl, List.length_replicate] at z
    simp at z
  | false =>
    have z := congrArg List.length e1
    rw [nameL_len2 c 20 ho] at z
    simp only [List.length_cons, List.length_nil] at z
    have hs : nmSize c = 2 := by omega
    have hp := nmPlace_le c
    have base : ∀ m : Nat, nmBase c m = [code (c / 3 + (m : Int) * m * (c / 3432 % 2) + 5 * ((0 : Nat) : Int)), code (c / 3 + (m : Int) * m * (c / 3432 % 2) + 5 * ((1 : Nat) : Int))] := fun m => by
      unfold nmBase
      rw [hs]; rfl
    unfold nameL at e1 e2
    rw [ho, if_neg Bool.false_ne_true, base] at e1 e2
    have hm : c / 3432 % 2 = 0 ∨ c / 3432 % 2 = 1 := by omega
    have cases3 : nmPlace c = 0 ∨ nmPlace c = 1 ∨ nmPlace c = 2 := by omega
    rcases cases3 with h | h | h <;> rw [h] at e1 e2 <;> simp only [List.take, List.drop, List.nil_append, List.cons_append, List.append_nil, List.append_assoc, List.cons.injEq, show (20 / 26 : Nat) = 0 from rfl, show (21 / 26 : Nat) = 0 from rfl, List.replicate] at e1 e2 <;> unfold code at e1 e2 <;> rcases hm with q | q <;> rw [q] at e1 e2 <;> omega
end Fb

namespace Fb
open PySem PySem.Spec PyProof.Rows L2
section
variable {Pg : Program} {w : World} {K : PySem.W.Frag} {mg : Str → Option Value} {base h : Heap} {x : Str} {st : Stmt} {f : Addr} {ps : List Str} {sp : SpE} {k : Nat}
theorem FA.dne (A : FA K x st f) (X : K.In h) (G : h.Ns mainGlobals mg) (ok : ∀ fd, Fun K x x st f fd → FnE Pg w K mg base k f fd ps sp)
    (hb : ∀ (kV doc pm : Value) (an : Option Addr) (cdv ct : Value) (us : List Value), us.length = ps.length → bindArgs (PySem.W.fnOf x x (defArgs st) (defBody st) (defScope st) .none kV doc pm an cdv ct) ⟨us, []⟩ = pure (ps.zip us)) : DnE Pg w K mg base k x ps sp := by
  obtain ⟨oc, od, kV, dc, pm, an, cd, ct, osl, l, c⟩ := A.l
  have F := fun_mk (st := st) l c A.k
  exact ⟨f, _, ok _ F, PySem.W.mg_of X G A.a, A.k, F.binds (ps := ps) hb⟩
end
end Fb

namespace Fb
open PySem PySem.Spec PyProof.Rows L2 HotX
/-! ### further walks while an error is handled -/
section
variable {prog : Program} {w : World} {A : Around} {E : Value → Shared → Prop} {s : Shared}
theorem hot_ascii_end {it x1 : Addr} {x : Str} {t : Tok} {i : Nat} {Q : Option Value → Shared → Prop} (hot : HotAt A x1 s.heap) (iter : s.heap.IsStrIter it "str_ascii_iterator" x t i) (last : x.cps[i]? = none)
    (post : ∀ h', Heap.ExtBut it s.heap h' → Q none { s with heap := h' }) : wpAny (model prog w) A (pyNext (.ref it)) Q E s := by
  obtain ⟨hh, oe, fe, ge, de, ce⟩ := hot
  obtain ⟨oi, gi, ci, di⟩ := id iter
  have ne : it ≠ x1 := fun z => by
    rw [← z, gi] at ge
    cases ge
    rw [di] at de
    cases de
    simp at ce
  unfold pyNext
  refine wpAny_bind (wpAny_attempt (wpAny_callSpecial?_slot (name := Str.ofString "__next__") iter.typeIs F.slot_str_ascii_iterator_next (wpAny_call_entry F.slot_str_ascii_iterator_next iter.typeIs F.entry_str_ascii_iterator_next ?_ (F.args_str_ascii_iterator_next_1 _))))
  show wpAny _ _ (field (.ref it) 0 >>= _) _ _ s
  refine wpAny_bind (wpAny_field gi di (x := .str x t) rfl ?_)
  show wpAny _ _ (field (.ref it) 1 >>= _) _ _ s
  refine wpAny_bind (wpAny_field gi di (x := .int i 0) rfl ?_)
  simp only [Int.toNat_natCast, last]
  refine wpAny_bind (wpAny_rule (wpAny_bind (wpAny_setField gi di (by simp) (wpAny_bind (wpAny_letGo ?_)))))
  refine hot_stop (x1 := x1) ⟨hh, oe, fe, (Heap.get?_update_other _ _ ne).trans ge, de, ce⟩ fun h' a kept isStop => ?_
  refine wpAny_bind (wpAny_isInstance (T := "StopIteration") (b := true) isStop isSubtype_stop (wpAny_pure (post h' fun b o nb e => kept b o ?_)))
  rw [Heap.get?_update_other _ _ (Ne.symm nb)]
  exact e
theorem hot_wide_end {it x1 : Addr} {x : Str} {t : Tok} {i : Nat} {Q : Option Value → Shared → Prop} (hot : HotAt A x1 s.heap) (iter : s.heap.IsStrIter it "str_iterator" x t i) (last : x.cps[i]? = none)
    (post : ∀ h', Heap.ExtBut it s.heap h' → Q none { s with heap := h' }) : wpAny (model prog w) A (pyNext (.ref it)) Q E s := by
  obtain ⟨hh, oe, fe, ge, de, ce⟩ := hot
  obtain ⟨oi, gi, ci, di⟩ := id iter
  have ne : it ≠ x1 := fun z => by
    rw [← z, gi] at ge
    cases ge
    rw [di] at de
    cases de
    simp at ce
  unfold pyNext
  refine wpAny_bind (wpAny_attempt (wpAny_callSpecial?_slot (name := Str.ofString "__next__") iter.typeIs F.slot_str_iterator_next (wpAny_call_entry F.slot_str_iterator_next iter.typeIs F.entry_str_iterator_next ?_ (F.args_str_iterator_next_1 _))))
  show wpAny _ _ (field (.ref it) 0 >>= _) _ _ s
  refine wpAny_bind (wpAny_field gi di (x := .str x t) rfl ?_)
  show wpAny _ _ (field (.ref it) 1 >>= _) _ _ s
  refine wpAny_bind (wpAny_field gi di (x := .int i 0) rfl ?_)
  simp only [Int.toNat_natCast, last]
  refine wpAny_bind (wpAny_rule (wpAny_bind (wpAny_setField gi di (by simp) (wpAny_bind (wpAny_letGo ?_)))))
  refine hot_stop (x1 := x1) ⟨hh, oe, fe, (Heap.get?_update_other _ _ ne).trans ge, de, ce⟩ fun h' a kept isStop => ?_
  refine wpAny_bind (wpAny_isInstance (T := "StopIteration") (b := true) isStop isSubtype_stop (wpAny_pure (post h' fun b o nb e => kept b o ?_)))
  rw [Heap.get?_update_other _ _ (Ne.symm nb)]
  exact e
theorem hot_items_end {it d x1 : Addr} {i ep : Nat} {es : Array DictEntry} {ok ov : Value} {Q : Option Value → Shared → Prop} (hot : HotAt A x1 s.heap) (iter : IsItemIter s.heap it d i es.size ep ok ov) (raw : DT.Raw s.heap d es ep) (last : es.size ≤ i)
    (post : ∀ h', Heap.ExtBut it s.heap h' → Q none { s with heap := h' }) : wpAny (model prog w) A (pyNext (.ref it)) Q E s := by
  obtain ⟨hh, oe, fe, ge, de, ce⟩ := hot
  obtain ⟨od, god, cod, dod⟩ := id raw
  have gi := id iter
  have ne : it ≠ x1 := fun z => by
    have g2 : s.heap.get? it = some _ := gi
    rw [z, ge] at g2
    cases g2
    cases de
    simp [rawInt] at ce
  have hT : s.TypeIs (.ref it) "dict_itemiterator" := ⟨_, iter, rfl⟩
  unfold pyNext
  refine wpAny_bind (wpAny_attempt (wpAny_callSpecial?_slot (name := Str.ofString "__next__") hT F.slot_dict_itemiterator_next (wpAny_call_entry F.slot_dict_itemiterator_next hT F.entry_dict_itemiterator_next ?_ (F.args_dict_itemiterator_next_1 _))))
  refine wpAny_bind (wpAny_pure (wpAny_bind (wpAny_bind ?_)))
  first | refine wpAny_bind (wpAny_typeNameOfWhole_itemiter hT (wpAny_pure ?_)) | refine wpAny_bind (wpAny_typeNameOf_itemiter hT (wpAny_pure ?_))
  refine wpAny_bind (wpAny_fieldsOf iter rfl ?_)
  simp only [show Builtin.Dict_items.ownsTuple "dict_itemiterator" = true from by decide, if_true]
  show wpAny _ _ (if (Value.ref d == Value.none) = true then _ else _) _ _ s
  rw [if_neg (show (Value.ref d == Value.none) ≠ true from fun z => Bool.false_ne_true z)]
  refine wpAny_bind (wpAny_pure (wpAny_bind (wpAny_dictEntries god dod ?_)))
  rw [if_neg (by simp)]
  refine wpAny_bind (wpAny_pure (wpAny_bind (wpAny_dictEpoch god dod ?_)))
  rw [if_neg (by simp)]
  refine wpAny_pure ?_
  simp only [show ¬ ((i : Int) < 0) from by omega, if_false, Int.toNat_natCast, Array.getElem?_eq_none last]
  refine wpAny_bind ?_
  first | refine wpAny_bind (wpAny_typeNameOfWhole_itemiter hT (wpAny_pure ?_)) | refine wpAny_bind (wpAny_typeNameOf_itemiter hT (wpAny_pure ?_))
  show wpAny _ _ (setField (.ref it) 2 .none >>= _) _ _ s
  refine wpAny_bind (wpAny_setField iter rfl (by simp) ?_)
  refine hot_stop (x1 := x1) ⟨hh, oe, fe, (Heap.get?_update_other _ _ ne).trans ge, de, ce⟩ fun h' a kept isStop => ?_
  refine wpAny_bind (wpAny_isInstance (T := "StopIteration") (b := true) isStop isSubtype_stop (wpAny_pure (post h' fun b o nb e => kept b o ?_)))
  rw [Heap.get?_update_other _ _ (Ne.symm nb)]
  exact e
end
end Fb

namespace Fb
open PySem PySem.Spec PyProof.Rows L2 HotX
theorem turn_strA {Pg : Program} {w : World} {K : PySem.W.Frag} {tg : Expr} (it : Addr) (x : Str) (t : Tok) (ty : String) (hty : ty = "str_ascii_iterator" ∨ ty = "str_iterator") : TurnA Pg w K tg (Its x) [it] it (fun n h => h.IsStrIter it ty x t n) where
  mem := List.mem_singleton.mpr rfl
  obj := fun n h st c hc => by
    rw [List.mem_singleton.mp hc]
    obtain ⟨ob, g, _, d⟩ := st
    exact ⟨ob, g, fun v z => by rw [d] at z; cases z⟩
  keep := fun n h h' st k => let ⟨ob, g, r⟩ := st; ⟨ob, k it (List.mem_singleton.mpr rfl) ob g, r⟩
  item := fun X e1 e2 e3 n pins z σ H E I free st go => by
    subst e1 e2 e3
    have F := free it (List.mem_singleton.mpr rfl)
    have lt : n < x.cps.size := go
    have hx : x.cps[n]? = some x.cps[n] := Array.getElem?_eq_getElem lt
    have hno : ["enumerate", "zip", "dict_itemiterator", "dict_reverseitemiterator", "odict_iterator", "itertools.zip_longest", "itertools.pairwise"].contains ty = false := by rcases hty with e | e <;> rw [e] <;> decide
    have fin : ∀ h', h'.IsStrIter it ty x t (n + 1) → Heap.SameBut it z.heap h' → ∃ u, some (Value.str ⟨#[x.cps[n]]⟩ z.toks) = some u ∧ wpAny (model X.prog X.w) X.A (letOwnedTupleGo tg (.ref it) u)
        (fun _ z2 => ∃ y H', Inv X pins σ H' z2 ∧ RelV y u ∧ (Its x).yld n H y H' ∧ z2.heap.IsStrIter it ty x t (n + 1) ∧ ∀ c ∈ [it], H' c = none) E { z with heap := h', toks := z.toks + 1 } := fun h' st' but => by
      have I1 : Inv X pins σ H { z with heap := h', toks := z.toks + 1 } := I.turned (fun c ob nc g => (but.2 c nc).trans g) F.1 F.2.1 F.2.2.2.1 F.2.2.2.2.1 F.2.2.2.2.2
      obtain ⟨oi, g, cc, dd⟩ := id st'
      exact ⟨_, rfl, go_of (s := { z with heap := h', toks := z.toks + 1 }) g cc dd hno ⟨.str ⟨#[x.cps[n]]⟩, H, I1, ⟨_, rfl⟩, ⟨rfl, _, hx, rfl⟩, st', fun c hc => (free c hc).1⟩⟩
    rcases hty with e | e
    · subst e; exact wpAny_pyNext_ascii_item st hx fun h' st' but => fin h' st' but
    · subst e; exact wpAny_pyNext_wide_item st hx fun h' st' but => fin h' st' but
  done := fun X e1 e2 e3 x1 n pins z σ H E hot I free st stop => by
    subst e1 e2 e3
    have F := free it (List.mem_singleton.mpr rfl)
    have hx : x.cps[n]? = none := Array.getElem?_eq_none stop
    rcases hty with e | e
    · subst e; exact hot_ascii_end hot st hx fun h' but => ⟨rfl, I.turned (t' := z.toks) (fun c ob nc g => but c ob nc g) F.1 F.2.1 F.2.2.2.1 F.2.2.2.2.1 F.2.2.2.2.2⟩
    · subst e; exact hot_wide_end hot st hx fun h' but => ⟨rfl, I.turned (t' := z.toks) (fun c ob nc g => but c ob nc g) F.1 F.2.1 F.2.2.2.1 F.2.2.2.2.1 F.2.2.2.2.2⟩
  self := fun _ _ _ _ _ st q => by
    rcases hty with e | e
    · rw [e] at st; exact wpAny_pyIter_striter_ascii st q
    · rw [e] at st; exact wpAny_pyIter_striter_wide st q
theorem turn_itemsTA {Pg : Program} {w : World} {K : PySem.W.Frag} {d : Addr} {o : Obj} {es : Array DictEntry} {ep : Nat} {kvs : List (List Key × V)} {elts : List Expr} {kk : Nat} {tpos : Pos} (it : Addr) (hod : o.data = .dict es ep) :
    TurnA Pg w K (.Tuple elts kk tpos) (Itit d o kvs) [it] it (fun n h => ∃ ok ov, IsItemIter h it d n kvs.length ep ok ov) where
  mem := List.mem_singleton.mpr rfl
  obj := fun n h st c hc => by
    rw [List.mem_singleton.mp hc]
    obtain ⟨ok, ov, e⟩ := st
    exact ⟨_, e, fun v z => nomatch z⟩
  keep := fun n h h' st k => let ⟨ok, ov, e⟩ := st; ⟨ok, ov, k it (List.mem_singleton.mpr rfl) _ e⟩
  item := fun X e1 e2 e3 n pins z σ H E I free st go => by
    subst e1 e2 e3
    obtain ⟨hd, hi⟩ := go
    obtain ⟨hs, hgd, hx, es', ep', hdt, hsz, ent⟩ := frzT2 I hd
    obtain ⟨rfl, rfl⟩ := dict_ep hod hdt
    obtain ⟨⟨k, v⟩, hkv⟩ : ∃ p, kvs[n]? = some p := ⟨kvs[n], List.getElem?_eq_getElem hi⟩
    obtain ⟨en, q, hen, hkey, hq, rv⟩ := ent n k v hkv
    obtain ⟨ok, ov, he⟩ := st
    rw [← hsz] at he
    have hi2 : n < es'.size := by rw [hsz]; exact hi
    have hen2 : es'[n] = en := (Array.getElem?_eq_some_iff.mp hen).2
    have hlt : it < z.heap.objs.size := Heap.lt_size he
    refine DT.nextI he ⟨o, hgd, hx, hdt⟩ hi2 fun h' ho hT hz hk => ?_
    rw [hen2] at ho hT
    refine ⟨_, rfl, wpAny_letOwnedTupleGo_items (s := { z with heap := h' }) ho fun h'' he' sb => ?_⟩
    have hT2 : h''.get? z.heap.objs.size = some { cls := .type "tuple", data := .seq #[en.key, en.val] } := (sb.2 _ (Nat.ne_of_gt hlt)).trans hT
    have new : ObjOk X.prog X.w (upd H z.heap.objs.size (.tup [.ref q, v])) h'' z.heap.objs.size (.tup [.ref q, v]) := ⟨by show 2 ≤ sizeLine; decide, [en.key, en.val], .cons hkey (.cons rv .nil), ⟨_, hT2, rfl, _, rfl⟩⟩
    have I1 : Inv X pins σ (upd H z.heap.objs.size (.tup [.ref q, v])) { z with heap := h'' } :=
      I.turnedNew (t' := z.toks) (ch := [it]) (fun b ob hb e => (sb.2 b (by simpa using hb)).trans (hk b ob (by simpa using hb) e)) free (Nat.le_refl _) new
    refine ⟨.ref z.heap.objs.size, _, I1, rfl, ⟨_, q, k, v, hkv, rfl, I.hok.fresh (Nat.le_refl _), hq, rfl⟩, ⟨en.key, en.val, ?_⟩, fun c hc => ?_⟩
    · rw [← hsz]; exact he'
    · rw [List.mem_singleton.mp hc, upd_ne (Nat.ne_of_lt hlt)]
      exact (free it (List.mem_singleton.mpr rfl)).1
  done := fun X e1 e2 e3 x1 n pins z σ H E hot I free st stop => by
    subst e1 e2 e3
    obtain ⟨hd, hi⟩ := stop
    have F := free it (List.mem_singleton.mpr rfl)
    obtain ⟨hs, hgd, hx, es', ep', hdt, hsz, ent⟩ := frzT2 I hd
    obtain ⟨rfl, rfl⟩ := dict_ep hod hdt
    obtain ⟨ok, ov, he⟩ := st
    rw [← hsz] at he
    exact hot_items_end hot he ⟨o, hgd, hx, hdt⟩ (by omega) fun h' but => ⟨rfl, I.turned (t' := z.toks) (fun c ob nc g => but c ob nc g) F.1 F.2.1 F.2.2.2.1 F.2.2.2.2.1 F.2.2.2.2.2⟩
  self := fun _ _ _ _ _ st q => let ⟨_, _, e⟩ := st; PySem.W.kcp_self e q
section
variable {X : Cx} {tg : Expr}
theorem pi_oneA {pins : List (Addr × Obj)} {σ : L2.St} {H : Hp} {s : Shared} {R : It → Hp → Prop} {J : It} {st : Nat → Heap → Prop} {h' : Heap} (I : Inv X pins σ H s) (kept : ∀ b o, s.heap.get? b = some o → h'.get? b = some o)
    (T : TurnA X.prog X.w X.K tg J [s.heap.objs.size] s.heap.objs.size st) (s0 : st 0 h') (q : R J H) : PIEA X pins σ tg R (.ref s.heap.objs.size) { s with heap := h' } := by
  refine ⟨s.heap.objs.size, [s.heap.objs.size], st, J, H, rfl, I.kept (t' := s.toks) kept, T, s0, fun c hc => ?_, q⟩
  rw [List.mem_singleton.mp hc]
  exact I.fpOk (Nat.le_refl _) (I.hok.fresh (Nat.le_refl _))
theorem pi_strA {e : Expr} {te : TE} (he : PE X e te) : PIA X tg e (iStr te) := ⟨fun pins z σ H R I wish => by
  refine thn (he.run pins z σ H _ I wish) fun v z1 got => ?_
  obtain ⟨y, H1, I1, r1, x, rfl, q⟩ := got
  obtain ⟨t, rfl⟩ := r1
  cases ha : x.cps.all (· < 128) with
  | false => exact wpAny_pyIter_wide ha (pi_oneA I1 (fun b o e => Heap.get?_push_of_some _ e) (turn_strA _ x t "str_iterator" (.inr rfl)) ⟨_, Heap.get?_push_size _ rfl, rfl, rfl⟩ q)
  | true => exact wpAny_pyIter_ascii ha (pi_oneA I1 (fun b o e => Heap.get?_push_of_some _ e) (turn_strA _ x t "str_ascii_iterator" (.inl rfl)) ⟨_, Heap.get?_push_size _ rfl, rfl, rfl⟩ q)⟩
theorem pi_itemsTA {e : Expr} {td : TE} {apos cpos tpos : Pos} {elts : List Expr} {kk : Nat} (he : PE X e td) (hbase : attributeBase e "items" X.env (eval e X.env) = eval e X.env := by rfl) (hline : (apos.endLine == cpos.line) = true := by rfl) :
    PIA X (.Tuple elts kk tpos) (.Call (.Attribute e "items" apos) [] [] cpos) (iItemsT td) := ⟨fun pins z σ H R I wish => by
  refine wpAny_Call_method (T := "dict") (id := "dict.items") hbase rfl hline F.plainAttrs_dict F.slot_dict_items F.type_dict_items (thn (he.run pins z σ H _ I wish) fun u z1 got => ?_)
  obtain ⟨x, H1, I1, rx, d, o, kvs, rfl, hd, q⟩ := got
  obtain rfl : u = Value.ref d := rx
  obtain ⟨hs, hgd, hx, es, ep, hdt, hsz, ent⟩ := frzT2 I1 hd
  have raw : DT.Raw z1.heap d es ep := ⟨o, hgd, hx, hdt⟩
  refine ⟨raw.typeIs, fun a e => by cases e; exact ⟨o, hgd, hx.2.1⟩, ?_⟩
  have I2 : Inv X pins σ H1 { z1 with heap := z1.heap.push { cls := .type "dict_items", data := .fields #[.ref d] } } := I1.kept (t' := z1.toks) fun b ob q => Heap.get?_push_of_some _ q
  have fin : wpAny (model X.prog X.w) X.A (pyIter (.ref z1.heap.objs.size)) (PIEA X pins σ (.Tuple elts kk tpos) R) X.xe { z1 with heap := z1.heap.push { cls := .type "dict_items", data := .fields #[.ref d] } } := by
    refine DT.iterI (d := d) ⟨_, Heap.get?_push_size _ rfl, rfl, rfl⟩ (raw.push _) (pi_oneA I2 (fun b o e => Heap.get?_push_of_some _ e) (turn_itemsTA _ hdt) ⟨.none, .none, ?_⟩ q)
    rw [← hsz]
    exact Heap.get?_push_size _ rfl
  show wpAny _ _ (callWith cpos (.builtin "dict.items") [.ref d] [] []) _ X.xe z1
  exact method_meetsIn F.slot_dict_items F.entry_dict_items rfl (PySem.evalArgs_none ⟨rfl, raw.typeIs, F.args_dict_items_1 _, _, DT.meetsItems (es := es) (ep := ep) hs, raw, fin⟩)⟩
end
end Fb

namespace Fb
open PySem PySem.Spec PyProof.Rows L2 HotX
section
variable {X : Cx} {tg : Expr}
theorem pi_range1A {e : Expr} {ta : TA} {p pos : Pos} (hg : Gl X "range") (hm : X.mg "range" = none) (ha : PA X [e] ta) (hs : starEach [e] X.env = [(false, eval e X.env)] := by rfl) : PIA X tg (.Call (.Name "range" p) [e] [] pos) (iRng1 ta) := ⟨fun pins z σ H R I wish => by
  refine Call_ (ld_blt I hg hm boot_range (PyProof.Rows.callWith_type1 (thn (ha.run pos pins z σ H _ I wish) fun us z1 got => ?_) hs rfl))
  obtain ⟨vs, H1, I1, r1, j, rfl, q1, q2, q⟩ := got
  cases r1 with
  | cons r rr =>
    cases rr
    obtain ⟨t, rfl⟩ := r
    refine call_range_1 (wpAny_pyIter_range (IsRange.new ..) (small_one (by omega) (by omega) q1 q2) ?_)
    have sz : ∀ (o : Obj), (z1.heap.push o).objs.size = z1.heap.objs.size + 1 := fun o => Heap.size_push ..
    refine ⟨_, [_], _, _, H1, rfl, I1.kept fun b o e => Heap.get?_push_of_some _ (Heap.get?_push_of_some _ e), turn_rangeA _ 0 (j - 0).toNat, ?_, fun c hc => ?_, by simpa using q⟩
    · have e1 : (0 : Int) + ((0 : Nat) : Int) * 1 = 0 := by simp
      have e2 : (((j - 0).toNat : Nat) : Int) - ((0 : Nat) : Int) = Builtin.Range.rangeSize 0 j 1 := by rw [rangeSize_one]; split <;> omega
      show IsRangeIter _ _ ((0 : Int) + ((0 : Nat) : Int) * 1) ((((j - 0).toNat : Nat) : Int) - ((0 : Nat) : Int)) 1
      rw [e1, e2]
      exact Heap.get?_push_size _ rfl
    · rw [List.mem_singleton.mp hc]
      exact I1.fpOk (Nat.le_of_lt (by rw [sz]; omega)) (I1.hok.fresh (Nat.le_of_lt (by rw [sz]; omega)))⟩
end
/-! ### methods called while an error is handled -/
structure DmE (Pg : Program) (w : World) (K : PySem.W.Frag) (mg : Str → Option Value) (base : Heap) (k : Nat) (C : Addr) (m : Str) (ps : List Str) (sp : SpE) : Prop where
  ex : ∃ f fd, FnE Pg w K mg base k f fd ps sp ∧ Meth K C m f ∧ Binds K fd ps []
def tMdE (q D C : Addr) (m : Str) (sp : SpE) (E : L2.St → XK) (ta : TE) (t : TA) : TE := tMdS D m (fun vs H Q Ex => sp q C vs H Q Ex) E ta t
section
variable {X : Cx} {k : Nat} {m : Str} {C D : Addr} {ps : List Str} {sp : SpE} {apos pos : Pos} {o e : Expr} {es : List Expr} {ta : TE} {t : TA} {E : L2.St → XK} {q : Addr × Obj} {f : Addr} {fd : FuncData}
theorem run_E {pins : List (Addr × Obj)} {σ : L2.St} {H : Hp} {s : Shared} {Q : VK} {us : List Value} {vs : List V} {Ex : XK} (F : FnE X.prog X.w X.K X.mg X.base k f fd ps sp) (hr : L2H.RoomH k X.A) (hq : q ∈ X.pn) (hh : X.A.handled = some (.ref q.1)) (er : Err1 C q)
    (hb : Binds X.K fd ps []) (hx : PassesAt (L2N.CX X.prog X.w) X σ Ex) (I : Inv X pins σ H s) (r : Vals vs us) (w1 : sp q.1 C vs H Q Ex) : wpAny (model X.prog X.w) X.A (call (.ref f) us) (EP X pins σ Q) X.xe s := by
  have ln : us.length = ps.length := by rw [← r.length]; exact F.len _ _ _ _ _ _ w1
  have b := hb s us I.kIn (by rw [List.append_nil]; exact ln)
  rw [List.append_nil] at b
  have P1 := I.pin q (List.mem_append_left _ hq)
  refine wpAny_call (codeAny_mono (F.run X.A X.stack s H ⟨us, []⟩ us vs Q Ex q C hr hh er ⟨P1.1, P1.2.1, fun hm => (List.mem_cons.mp (I.stkSub q.1 hm)).elim P1.2.2.1 P1.2.2.2.1, P1.2.2.2.2⟩ I.env0 b r w1) fun r s' hq => ?_)
  cases r with
  | error er => exact hx pins H s er s' I hq
  | ok fl =>
    cases fl with
    | ret u => exact I.after hq
    | next => exact hq.elim
    | brk => exact hq.elim
    | cont => exact hq.elim
theorem pe_mdE {pl : Sem Bool} (he : PE X o ta) (c : Cls X.K D) (M : DmE X.prog X.w X.K X.mg X.base k D m ps sp) (hr : L2H.RoomH k X.A) (hq : q ∈ X.pn) (hh : X.A.handled = some (.ref q.1)) (er : Err1 C q) (hx : ∀ σ, PassesAt (L2N.CX X.prog X.w) X σ (E σ)) (ha : PA X (e :: es) t)
    (hst : starEach (e :: es) X.env = (false, eval e X.env) :: starEach es X.env := by rfl) (hpl : (backTo pos (starEach es X.env)).any (·.1) = false := by rfl)
    (ht : eval (.Call (.Attribute o m apos) (e :: es) [] pos) X.env = (do
      let ov ← eval o X.env
      standAt apos.atName
      let (f, first) ← holding [ov] (getMethod ov m pl)
      callWith pos f first (backTo pos (starEach (e :: es) X.env)) (backToKw pos (keywordEach [] X.env))) := by rfl) :
    PE X (.Call (.Attribute o m apos) (e :: es) [] pos) (tMdE q.1 D C m sp E ta t) := by
  obtain ⟨f, fd, F, hm, hb⟩ := M.ex
  refine ⟨fun pins s σ H Q I wish => ?_⟩
  refine PySem.W.methodCall_KW (pl := pl) (thn (he.run pins s σ H _ I wish) fun u s1 got => ?_) ht
  obtain ⟨y, H1, I1, ry, a, dx, fs, rfl, ea, l, w1⟩ := got
  obtain rfl : u = Value.ref a := ry
  refine getmeth_ok I1 ea c hm l (PySem.W.callWith_K (first := [.ref a]) (h₀ := X.base) I.ok.mod.kin hm.kp (thn (ha.run pos pins s1 σ H1 _ I1 w1) fun us s2 got => ?_) hst hpl)
  obtain ⟨vs, H2, I2, r, w2⟩ := got
  exact ⟨I2.kIn, run_E (us := .ref a :: us) (vs := .ref a :: vs) F hr hq hh er hb (hx σ) I2 (.cons rfl r) w2⟩
theorem pe_mdE0 {pl : Sem Bool} (he : PE X o ta) (c : Cls X.K D) (M : DmE X.prog X.w X.K X.mg X.base k D m ps sp) (hr : L2H.RoomH k X.A) (hq : q ∈ X.pn) (hh : X.A.handled = some (.ref q.1)) (er : Err1 C q) (hx : ∀ σ, PassesAt (L2N.CX X.prog X.w) X σ (E σ))
    (ht : eval (.Call (.Attribute o m apos) [] [] pos) X.env = (do
      let ov ← eval o X.env
      standAt apos.atName
      let (f, first) ← holding [ov] (getMethod ov m pl)
      callWith pos f first (backTo pos (starEach [] X.env)) (backToKw pos (keywordEach [] X.env))) := by rfl) :
    PE X (.Call (.Attribute o m apos) [] [] pos) (tMdE q.1 D C m sp E ta tNil) := by
  obtain ⟨f, fd, F, hm, hb⟩ := M.ex
  refine ⟨fun pins s σ H Q I wish => ?_⟩
  refine PySem.W.methodCall_KW (pl := pl) (thn (he.run pins s σ H _ I wish) fun u s1 got => ?_) ht
  obtain ⟨y, H1, I1, ry, a, dx, fs, rfl, ea, l, w1⟩ := got
  obtain rfl : u = Value.ref a := ry
  refine getmeth_ok I1 ea c hm l ?_
  exact PySem.W.callWith_K0 (first := [.ref a]) I1.kIn hm.kp (run_E (us := [.ref a]) (vs := [.ref a]) F hr hq hh er hb (hx σ) I1 (.cons rfl .nil) w1)
end
section
variable {Y : Cx} {k : Nat} {m : Str} {D : Addr} {ps : List Str} {sp : SpE} {apos pos : Pos} {o e : Expr} {es : List Expr} {ta : TE} {t : TA} {E : L2.St → XK} {a : Addr} {oe : Obj} {cls : Value} {d : Option Addr} {pn : List (Addr × Obj)}
/-- o.m() in the suite, the error's class open -/
theorem pe_mdEG0 {pl : Sem Bool} (he : PE (Y.suite a ((a, oe) :: pn)) o ta) (c : Cls Y.K D) (M : DmE Y.prog Y.w Y.K Y.mg Y.base k D m ps sp) (hr : L2H.RoomH k (Y.suite a ((a, oe) :: pn)).A) (hz : L2N.Zn cls d oe) (hf : ∃ vs, oe.data = .fields vs)
    (hx : ∀ σ, PassesAt (L2N.CX Y.prog Y.w) (Y.suite a ((a, oe) :: pn)) σ (E σ))
    (ht : eval (.Call (.Attribute o m apos) [] [] pos) Y.env = (do
      let ov ← eval o Y.env
      standAt apos.atName
      let (f, first) ← holding [ov] (getMethod ov m pl)
      callWith pos f first (backTo pos (starEach [] Y.env)) (backToKw pos (keywordEach [] Y.env))) := by rfl) :
    PE (Y.suite a ((a, oe) :: pn)) (.Call (.Attribute o m apos) [] [] pos) (fun σ H Q => ∃ C, cls = .ref C ∧ d = none ∧ tMdE a D C m sp E ta tNil σ H Q) := by
  refine ⟨fun pins s σ H Q I wish => ?_⟩
  obtain ⟨C, rfl, rfl, wish⟩ := wish
  obtain ⟨vs, hv⟩ := hf
  exact (pe_mdE0 (X := Y.suite a ((a, oe) :: pn)) (q := (a, oe)) (pl := pl) he c M hr List.mem_cons_self rfl ⟨hz.zc, vs, hv, hz.2.2 vs hv⟩ hx ht).run pins s σ H Q I wish
end
section
variable {Pg : Program} {w : World} {K : PySem.W.Frag} {mg : Str → Option Value} {base h : Heap} {m qual : Str} {st : Stmt} {f C : Addr} {ps : List Str} {sp : SpE} {k : Nat}
theorem FM.dme (A : FM K C m qual st f) (ok : ∀ fd, Fun K m qual st f fd → FnE Pg w K mg base k f fd ps sp)
    (hb : ∀ (kV doc pm : Value) (an : Option Addr) (cdv ct : Value) (us : List Value), us.length = ps.length → bindArgs (PySem.W.fnOf m qual (defArgs st) (defBody st) (defScope st) .none kV doc pm an cdv ct) ⟨us, []⟩ = pure (ps.zip us)) :
    DmE Pg w K mg base k C m ps sp := by
  obtain ⟨oc, od, kV, dc, pm, an, cd, ct, osl, l, c⟩ := A.l
  have F := fun_mk (st := st) l c A.k
  exact ⟨f, _, ok _ F, ⟨A.a, A.i, A.k⟩, F.binds (ps := ps) hb⟩
end
end Fb

namespace Fb
open PySem PySem.Spec PyProof.Rows L2 HotX
/-- in every state of the context an error is handled whose context is None -/
def HotIn (X : Cx) : Prop := ∀ (pins : List (Addr × Obj)) (σ : L2.St) (H : Hp) (s : Shared), Inv X pins σ H s → ∃ x1, HotAt X.A x1 s.heap
theorem hotIn_of {X : Cx} (c : L2H.HotC X) : HotIn X := fun _ _ _ _ I => c.at I
section
variable {prog : Program} {w : World} {A : Around} {E : Value → Shared → Prop} {s : Shared}
theorem hot_tuple_end {it l x1 : Addr} {i : Nat} {its : Array Value} {Q : Option Value → Shared → Prop} (hot : HotAt A x1 s.heap) (iter : IsTupIter s.heap it l i) (lst : IsTup s.heap l its) (last : its[i]? = none)
    (post : ∀ h', Heap.ExtBut it s.heap h' → Q none { s with heap := h' }) : wpAny (model prog w) A (pyNext (.ref it)) Q E s := by
  obtain ⟨hh, oe, fe, ge, de, ce⟩ := hot
  obtain ⟨oi, gi, ci, di⟩ := id iter
  obtain ⟨ol, gl, _, nl, dl⟩ := lst
  have ne : it ≠ x1 := fun z => by
    rw [← z, gi] at ge
    cases ge
    rw [di] at de
    cases de
    simp at ce
  unfold pyNext
  refine wpAny_bind (wpAny_attempt (wpAny_callSpecial?_slot (name := Str.ofString "__next__") iter.typeIs slot_tupleiter_next (wpAny_call_entry slot_tupleiter_next iter.typeIs entry_tupleiter_next ?_ (args_tupleiter_next _))))
  show wpAny _ _ (field (.ref it) 0 >>= _) _ _ s
  refine wpAny_bind (wpAny_field gi di (x := .ref l) rfl ?_)
  show wpAny _ _ (if (Value.ref l == Value.none) = true then _ else _) _ _ s
  rw [if_neg (show (Value.ref l == Value.none) ≠ true from fun z => Bool.false_ne_true z)]
  show wpAny _ _ (field (.ref it) 1 >>= _) _ _ s
  refine wpAny_bind (wpAny_field gi di (x := .int i 0) rfl ?_)
  show wpAny _ _ (seqItems? (.ref l) >>= _) _ _ s
  refine wpAny_bind (wpAny_seqItems gl dl ?_)
  simp only [Int.toNat_natCast, last]
  refine wpAny_bind (wpAny_rule (wpAny_bind (wpAny_setField gi di (by simp) ?_)))
  refine hot_stop (x1 := x1) ⟨hh, oe, fe, (Heap.get?_update_other _ _ ne).trans ge, de, ce⟩ fun h' a kept isStop => ?_
  refine wpAny_bind (wpAny_isInstance (T := "StopIteration") (b := true) isStop isSubtype_stop (wpAny_pure (post h' fun b o nb e => kept b o ?_)))
  rw [Heap.get?_update_other _ _ (Ne.symm nb)]
  exact e
theorem hot_unpack {t x1 : Addr} {its : Array Value} {Q : List Value → Shared → Prop} (hot : HotAt A x1 s.heap) (ht : IsTup s.heap t its)
    (post : ∀ h', Heap.ExtBut s.heap.objs.size s.heap h' → Q its.toList { s with heap := h' }) : wpAny (model prog w) A (unpackItems (.ref t) its.size none) Q E s := by
  have ne : t ≠ s.heap.objs.size := by obtain ⟨o, ho, _⟩ := ht; exact Nat.ne_of_lt (Heap.lt_size ho)
  obtain ⟨hh, oe, fe, ge, de, ce⟩ := hot
  have nx : x1 ≠ s.heap.objs.size := Nat.ne_of_lt (Heap.lt_size ge)
  unfold unpackItems
  refine wpAny_bind ?_
  unfold notIterableAtAll
  refine wpAny_bind (wpAny_specialOf ht.typeIs slot_tuple_iter.lookup (wpAny_pure ?_))
  simp only [Bool.false_eq_true, if_false]
  refine wpAny_bind (wpAny_holding (iter_tuple ht ?_))
  refine wpAny_bind (wpAny_holding (draw_tuple ne its.size 0 _ _ ⟨_, Heap.get?_push_size _ rfl, rfl, rfl⟩ (ht.push _) (by omega) fun h1 hit1 but1 => ?_))
  rw [List.drop_zero, List.take_of_length_le (by simp), if_neg (by simp)]
  refine wpAny_bind (wpAny_holding (hot_tuple_end (x1 := x1) ⟨hh, oe, fe, but1.extBut x1 oe nx (Heap.get?_push_of_some _ ge), de, ce⟩ hit1 ((ht.push _).extBut but1.extBut ne) (by simp) fun h2 but2 => ?_))
  simp only [Option.isSome_none, Bool.false_eq_true, if_false]
  exact wpAny_pure (post h2 fun b o nb e => but2 b o nb (but1.extBut b o nb (Heap.get?_push_of_some _ e)))
end
theorem pg_tupA {X : Cx} {es : List Expr} {k : Nat} {t : TGs} {n : Nat} {pos : Pos} (hot : HotIn X) (h : PGs X es t) (hn : (assignEach es X.env).length = n := by rfl) (hst : (assignEach es X.env).findIdx? (·.1) = none := by rfl) : PG X (.Tuple es k pos) (gTup X.K n t) := ⟨fun pins s σ H v u Q I r wish => by
  obtain ⟨a, xs, rfl, hq, hl, wish⟩ := wish
  cases r
  obtain ⟨its, rv, ht, hz⟩ := I.tuple hq
  obtain ⟨x1, hx⟩ := hot pins σ H s I
  have ln : (assignEach es X.env).length = its.toArray.size := by simp [hn, ← hl, rv.length]
  rw [assign_Tuple]
  refine wpAny_bind (wpAny_standAt ?_)
  unfold unpack
  rw [ln, hst]
  refine wpAny_bind (wpAny_holding (hot_unpack hx ht fun h' ext => ?_))
  have I1 : Inv X pins σ H { s with heap := h' } := I.kept (t' := s.toks) fun b o e => ext b o (Nat.ne_of_lt (Heap.lt_size e)) e
  exact h.run pins _ σ H xs _ Q I1 (by simpa using rv) wish⟩
section
variable {X : Cx}
/-- a list's comprehension while an error is handled -/
theorem pe_lcH {elt tg iter : Expr} {ifs : List Expr} {sc : Scope} {own : List (Str × Nat)} {pos : Pos} {wi : TI} {g : TG} {tt : TT} {te : TE} (hot : L2H.HotC X) (nd : X.N.Nodup) (hi : PIA X tg iter wi) (ok : BlkOk X.N X.env.scope sc own)
    (hg : ∀ (z : Shared) (H : Hp) (C : Addr) (cl : List (Str × Addr)) (fp : List Addr), HotIn (X.blk z H sc (compEnvC sc cl C X.env) fp) → PG (X.blk z H sc (compEnvC sc cl C X.env) fp) tg g)
    (ht : ∀ (z : Shared) (H : Hp) (C : Addr) (cl : List (Str × Addr)) (fp : List Addr), HotIn (X.blk z H sc (compEnvC sc cl C X.env) fp) → PTs (X.blk z H sc (compEnvC sc cl C X.env) fp) ifs tt)
    (he : ∀ (z : Shared) (H : Hp) (C : Addr) (cl : List (Str × Addr)) (fp : List Addr), HotIn (X.blk z H sc (compEnvC sc cl C X.env) fp) → PE (X.blk z H sc (compEnvC sc cl C X.env) fp) elt te)
    (hs : ∀ x, foldedSetIterable iter X.env x = pure x := by intro _; rfl) : PE X (.ListComp elt [⟨tg, iter, ifs, 0⟩] sc pos) (tLc wi g tt te (own.map (·.2))) := by
  refine ⟨fun pins z0 σ H Q I wish => ?_⟩
  rw [eval_ListComp]
  obtain ⟨p, ⟨hh, fe, de, cx⟩, pm⟩ := hot
  have frees : ∀ y ∈ sc.names, y.2 = .free → ∃ c, X.env.cells.lookup y.1 = some c := fun y hy e => (ok.free y hy e).elim (fun k => I.ok.has _ (.inl k)) fun k => I.ok.has _ (.inr k)
  refine wpAny_comprehension_free rfl hs (closure_ok frees) ok.kind (fun y hy e => by rw [ok.uniq y hy, e]) (thn (hi.run pins z0 σ H _ I wish) fun xv z1 hx => thn hx fun itv z2 got => ?_)
  obtain ⟨it, fp, tn, J, H2, rfl, I2, T, t2, f2, q⟩ := got
  refine wpAny_newObj_type (newEnv_comp ?_) (Nat.zero_le _)
  generalize eD : z2.heap.objs.size = D
  have freeD : H2 D = none := I2.hok.fresh (Nat.le_of_eq eD)
  obtain ⟨W, ⟨m0, w0⟩, turn⟩ := q D freeD
  generalize e3 : ({ z2 with heap := z2.heap.push { cls := .type "list", data := .seq ([] : List Value).toArray } } : Shared) = z3
  have I3 : Inv X pins σ (upd H2 D (.lst [])) z3 := by
    rw [← e3]
    refine I2.laid (t' := z2.toks) (fun b o e => Heap.get?_push_of_some _ e) (Nat.le_of_eq eD) ⟨Nat.zero_le _, [], 0, .nil, ?_⟩
    rw [← eD]
    exact Heap.get?_push_size _ rfl
  have h3 : z3.heap = z2.heap.push { cls := .type "list", data := .seq ([] : List Value).toArray } := by rw [← e3]
  have below : ∀ c ∈ fp, c < z2.heap.objs.size := fun c hc => by
    obtain ⟨ob, e, _⟩ := T.obj _ _ t2 c hc
    exact Heap.lt_size e
  have f3 : ∀ c ∈ fp, FpOk X pins (upd H2 D (.lst [])) c ∧ c < z3.heap.objs.size := fun c hc => by
    have lt := below c hc
    refine ⟨⟨?_, (f2 c hc).2⟩, by rw [h3, Heap.size_push]; exact Nat.lt_succ_of_lt lt⟩
    rw [upd_ne (by rw [← eD]; exact Nat.ne_of_lt lt)]
    exact (f2 c hc).1
  have t3 : tn 0 z3.heap := T.keep _ _ _ t2 fun c _ o e => by rw [h3]; exact Heap.get?_push_of_some _ e
  have I4 := block_start I3 ok nd f3
  -- the error stands where the block begins
  have P3 := I3.pin p (List.mem_append_left _ pm)
  have pstk : p.1 ∉ frs X.stack := fun z => (List.mem_cons.mp (I3.stkSub p.1 z)).elim P3.2.2.1 P3.2.2.2.1
  have pfp : p.1 ∉ fp := fun z => (f3 p.1 z).1.2.2.2.2.2 p (List.mem_append_left _ pm) rfl
  have hotI : HotIn (X.blk z3 (upd H2 D (.lst [])) sc (compEnvC sc (cellsFrom (z3.heap.objs.size + 1) sc.names (cloFrom X.env.cells sc.names [])) z3.heap.objs.size X.env) fp) := fun ps σ' H' z I' => ⟨p.1, hh, p.2, fe, I'.base.keep p.1 p.2 P3.1 P3.2.1 pstk pfp, de, cx⟩
  have pg := hg z3 (upd H2 D (.lst [])) z3.heap.objs.size (cellsFrom (z3.heap.objs.size + 1) sc.names (cloFrom X.env.cells sc.names [])) fp hotI
  have pt := ht z3 (upd H2 D (.lst [])) z3.heap.objs.size (cellsFrom (z3.heap.objs.size + 1) sc.names (cloFrom X.env.cells sc.names [])) fp hotI
  have pe := he z3 (upd H2 D (.lst [])) z3.heap.objs.size (cellsFrom (z3.heap.objs.size + 1) sc.names (cloFrom X.env.cells sc.names [])) fp hotI
  clear hotI
  show codeAny _ _ (.compStart (.ListComp elt [⟨tg, iter, ifs, 0⟩] sc pos) 0 (.ref it) (.ref D) (compEnvC sc (cellsFrom (z3.heap.objs.size + 1) sc.names (cloFrom X.env.cells sc.names [])) z3.heap.objs.size X.env)) (compPost (model X.prog X.w) X.A X.xe none _ (.ref D) z3.heap.objs.size)
    { z3 with heap := pushCells (z3.heap.push { cls := .type "dict", data := .dict #[] }) sc.names }
  have none3 : ∀ c ∈ fp, (upd H2 D (.lst [])) c = none := fun c hc => (f3 c hc).1.1
  generalize ece : compEnvC sc (cellsFrom (z3.heap.objs.size + 1) sc.names (cloFrom X.env.cells sc.names [])) z3.heap.objs.size X.env = ce at I4 pg pt pe ⊢
  have cL : ce.locals = z3.heap.objs.size := by rw [← ece]; rfl
  generalize eH : upd H2 D (.lst []) = H3 at I3 I4 pg pt pe w0 none3 f3 P3
  generalize e4 : ({ z3 with heap := pushCells (z3.heap.push { cls := .type "dict", data := .dict #[] }) sc.names } : Shared) = z4 at I4 ⊢
  have t4 : tn 0 z4.heap := T.keep _ _ _ t3 fun c _ o e => by rw [← e4]; exact pushCells_keeps _ _ _ _ (Heap.get?_push_of_some _ e)
  have hotB : ∀ {σ' : L2.St} {H' : Hp} {z : Shared} {ps : List (Addr × Obj)}, Inv (X.blk z3 H3 sc ce fp) ps σ' H' z → HotAt X.A p.1 z.heap := fun {σ' H' z ps} I' => ⟨hh, p.2, fe, I'.base.keep p.1 p.2 P3.1 P3.2.1 pstk pfp, de, cx⟩
  have stay : ∀ {σ' : L2.St} {H' : Hp} {z : Shared}, Inv (X.blk z3 H3 sc ce fp) [] σ' H' z → (∀ c ∈ fp, H' c = none) → ∀ c ∈ fp, FpOk (X.blk z3 H3 sc ce fp) [] H' c := fun {σ' H' z} I' hn c hc =>
    ⟨hn c hc, (I'.ok.exf c hc).1, I'.ok.exfs c hc, .inl hc, fun y a e => (I'.ok.exf c hc).2 y a e, fun r hr => nomatch (show r ∈ ([] : List (Addr × Obj)) from hr)⟩
  refine codeAny_compStart_list ?_ (T.self X.A 0 _ _ _ t4 ?_)
  all_goals
    refine compLoop_any (fun k z => ∃ n H', Inv (X.blk z3 H3 sc ce fp) [] (wipe σ (own.map (·.2))) H' z ∧ tn n z.heap ∧ (∀ c ∈ fp, H' c = none) ∧ W n k H') ?_ m0 ⟨0, H3, I4, t4, none3, w0⟩
    rintro k z5 ⟨n, H5, I5, t5, none5, w5⟩
    rcases turn n k H5 w5 with ⟨stop, qq⟩ | ⟨go, Nx, dec, step⟩
    · refine thnF (T.done (X.blk z3 H3 sc ce fp) rfl rfl rfl p.1 n [] z5 _ H5 (fun _ _ => False) (hotB I5) I5 (stay I5 none5) t5 stop) fun r z6 got => ?_
      obtain ⟨rfl, I6⟩ := got
      have I7 : Inv X pins σ H5 z6 := I3.call' (ch := fp) I6.os I6.base I6.hok I6.bare fun c hc => ⟨(f3 c hc).1.2.2.2.1, (f3 c hc).1.2.1, (f3 c hc).1.2.2.2.2.1, (f3 c hc).1.2.2.2.2.2⟩
      have nC : H5 z3.heap.objs.size = none := by
        have y : H5 ce.locals = none := I6.free
        rw [cL] at y
        exact y
      obtain ⟨m, hn, _⟩ := I6.loc
      have hn : z6.heap.Ns ce.locals m := hn
      rw [cL] at hn
      obtain ⟨a0, a1, a2, a3, a4, a5⟩ := I3.fpOk (Nat.le_refl _) nC
      exact ⟨m, hn, fun h'' sb => ⟨.ref D, H5, I7.turned (t' := z6.toks) (fun b o nb e => (sb.2 b nb).trans e) a0 a1 a3 a4 a5, rfl, qq⟩⟩
    · refine thnF (T.item (X.blk z3 H3 sc ce fp) rfl rfl rfl n [] z5 _ H5 (fun _ _ => False) I5 (stay I5 none5) t5 go) fun r z6 got => ?_
      obtain ⟨u, rfl, h6⟩ := got
      refine thnF h6 fun _ z7 got => ?_
      obtain ⟨x, H7, I7, r7, y7, t7, none7⟩ := got
      refine thnF (pg.run _ z7 _ H7 x u _ (I7.pinned (stay I7 none7) (T.obj _ _ t7)) r7 (step x H7 y7)) fun _ z8 got => ?_
      obtain ⟨σ8, H8, I8, wiped, q8⟩ := got
      refine thnF (pt.run _ z8 σ8 H8 _ I8 q8) fun b z9 got => ?_
      obtain ⟨H9, I9, q9⟩ := got
      have again : ∀ {z : Shared} {H' : Hp}, Inv (X.blk z3 H3 sc ce fp) ([] ++ pinsAt fp z7.heap) σ8 H' z → Nx H' → ∃ m, m < k ∧ ∃ n H', Inv (X.blk z3 H3 sc ce fp) [] (wipe σ (own.map (·.2))) H' z ∧ tn n z.heap ∧ (∀ c ∈ fp, H' c = none) ∧ W n m H' := fun {z H'} I' nx => by
        obtain ⟨m', lt, w'⟩ := dec H' nx
        have same : ∀ c ∈ fp, ∀ o, z7.heap.get? c = some o → z.heap.get? c = some o ∧ H' c = none := fun c hc o e =>
          let y := I'.pin (c, o) (List.mem_append_right _ (List.mem_append_right _ (mem_pinsAt hc e)))
          ⟨y.1, y.2.1⟩
        refine ⟨m', lt, n + 1, H', (I'.unpinned (pins := [])).weak (by rw [← wiped, wipe_length]) (fun j v e => ?_), T.keep _ _ _ t7 fun c hc o e => (same c hc o e).1, fun c hc => ?_, w'⟩
        · rw [← wiped] at e
          exact (wipe_some e).1
        · obtain ⟨o, e, _⟩ := T.obj _ _ t7 c hc
          exact (same c hc o e).2
      cases b with
      | false =>
        rw [if_neg Bool.false_ne_true] at q9 ⊢
        exact again I9 q9
      | true =>
        rw [if_pos rfl] at q9 ⊢
        refine thnF (pe.run _ z9 σ8 H9 _ I9 q9) fun y z10 got => ?_
        obtain ⟨yv, H10, I10, r10, acc, hD, room, nx⟩ := got
        exact app_ok (X := X.blk z3 H3 sc ce fp) I10 hD room r10 fun z11 I11 => again I11 nx
end
end Fb

namespace Fb
open PySem PySem.Spec PyProof.Rows L2
/-! ### rules whose new heap is left open -/
theorem _root_.L2.PE.weak {X : Cx} {e : Expr} {t t' : TE} (h : PE X e t) (w : ∀ σ H Q, t' σ H Q → t σ H Q) : PE X e t' := ⟨fun pins s σ H Q I q => h.run pins s σ H Q I (w _ _ _ q)⟩
def monoA (t : TA) : TA := fun σ H Q => ∃ Q0 : List V → Hp → Prop, t σ H Q0 ∧ ∀ vs H1, Q0 vs H1 → Q vs H1
theorem _root_.L2.PA.mono {X : Cx} {es : List Expr} {t : TA} (h : PA X es t) : PA X es (monoA t) := ⟨fun pos pins s σ H Q I ⟨Q0, q, m⟩ => thn (h.run pos pins s σ H Q0 I q) fun us s1 ⟨vs, H1, I1, r, q1⟩ => ⟨vs, H1, I1, r, m _ _ q1⟩⟩
def tLstN (t : TA) : TE := fun σ H Q => t σ H fun xs H1 => xs.length ≤ 100000 ∧ ∀ p H', H1 p = none → Same H1 H' → H' p = some (.lst xs) → Q (.ref p) H'
def tTupN (t : TA) : TE := fun σ H Q => t σ H fun xs H1 => xs.length ≤ 100000 ∧ ∀ p H', H1 p = none → Same H1 H' → H' p = some (.tup xs) → Q (.ref p) H'
def tDNewTN : TE := fun _ H Q => ∀ p H', H p = none → Same H H' → H' p = some (.dT []) → Q (.ref p) H'
section
variable {X : Cx} {es : List Expr} {t : TA} {pos : Pos}
theorem pe_lstN (h : PA X es t) : PE X (.List es pos) (tLstN t) := (pe_lst h.mono).weak fun σ H Q q => ⟨_, q, fun vs H1 ⟨l, q1⟩ => ⟨szl l, fun p hp => q1 p _ hp (same_new hp) upd_same⟩⟩
theorem pe_tupN {x1} (h : PA X es t) : PE X (.Tuple es x1 pos) (tTupN t) := (pe_tup h.mono).weak fun σ H Q q => ⟨_, q, fun vs H1 ⟨l, q1⟩ => ⟨szl l, fun p hp => q1 p _ hp (same_new hp) upd_same⟩⟩
theorem pe_dnewTN : PE X (.Dict [] [] pos) tDNewTN := pe_dnewT.weak fun σ H Q q => fun p hp => q p _ hp (same_new hp) upd_same
end
def rCatN (K : PySem.W.Frag) : R2 := fun x y H Q => ∃ l b xs zs, x = .ref l ∧ y = .ref b ∧ H l = some (.lst xs) ∧ H b = some (.lst zs) ∧ xs.length + zs.length ≤ 100000 ∧ ∀ p H', H p = none → Same H H' → H' p = some (.lst (xs ++ zs)) → Q (.ref p) H'
def rRepN : R2 := fun x y H Q => ∃ l k xs, x = .ref l ∧ y = .int k ∧ H l = some (.lst xs) ∧ -1000000 ≤ k ∧ k < 1000000 ∧ xs.length * k.toNat ≤ 100000 ∧ ∀ p H', H p = none → Same H H' → H' p = some (.lst (List.replicate k.toNat xs).flatten) → Q (.ref p) H'
def rSlLN (K : PySem.W.Frag) : V → Option Int → Option Int → Hp → VK → Prop := fun x lo hi H Q => ∃ a xs, x = .ref a ∧ SqL K H a xs ∧ ∀ p H', H p = none → Same H H' → H' p = some (.lst (cutV xs lo hi)) → Q (.ref p) H'
def rListOfN (K : PySem.W.Frag) : List V → Hp → VK → Prop := fun xs H Q => ∃ p ys, xs = [.ref p] ∧ (SqL K H p ys ∨ SqT K H p ys) ∧ ∀ l H', H l = none → Same H H' → H' l = some (.lst ys) → Q (.ref l) H'
def rAppendN : V → List V → Hp → VK → Prop := fun x vs H Q => ∃ l xs y, x = .ref l ∧ vs = [y] ∧ H l = some (.lst xs) ∧ xs.length < 100000 ∧ ∀ H', SameB l H H' → H' l = some (.lst (xs ++ [y])) → Q .non H'
def rExtendN : V → List V → Hp → VK → Prop := fun x vs H Q => ∃ l b xs zs, x = .ref l ∧ vs = [.ref b] ∧ H l = some (.lst xs) ∧ H b = some (.lst zs) ∧ xs.length + zs.length ≤ 100000 ∧ ∀ H', SameB l H H' → H' l = some (.lst (xs ++ zs)) → Q .non H'
def rClearN : V → List V → Hp → VK → Prop := fun x vs H Q => ∃ l xs, x = .ref l ∧ vs = [] ∧ H l = some (.lst xs) ∧ ∀ H', SameB l H H' → H' l = some (.lst []) → Q .non H'
theorem sameB_upd {H : Hp} {p : Addr} {o : HO} : SameB p H (upd H p o) := fun b u nb e => by rw [upd_ne nb]; exact e
def rSetLN : TSet := fun o i v H Q => ∃ p xs k j, o = .ref p ∧ i = .int k ∧ H p = some (.lst xs) ∧ ixN xs.length k = some j ∧ ∀ H', SameB p H H' → H' p = some (.lst (xs.set j v)) → Q H'
section
variable {X : Cx}
theorem op_catN : OpR X (binaryOp .Add) (rCatN X.K) := fun pins s σ H x y v u Q I rx ry ⟨l, b, xs, zs, e1, e2, h1, h2, hl, q⟩ => op_cat pins s σ H x y v u Q I rx ry ⟨l, b, xs, zs, e1, e2, h1, h2, szl hl, fun p hp => q p _ hp (same_new hp) upd_same⟩
theorem op_repN : OpR X (binaryOp .Mult) rRepN := fun pins s σ H x y v u Q I rx ry ⟨l, k, xs, e1, e2, h1, b1, b2, hl, q⟩ => op_rep pins s σ H x y v u Q I rx ry ⟨l, k, xs, e1, e2, h1, by omega, by omega, szl hl, fun p hp => q p _ hp (same_new hp) upd_same⟩
theorem sl_listN : SlR X (rSlLN X.K) := fun pins s σ H x v vl vu lo hi sl Q I rx hs pl pu ⟨a, xs, e, hx, q⟩ => sl_list pins s σ H x v vl vu lo hi sl Q I rx hs pl pu ⟨a, xs, e, hx, fun p hp => q p _ hp (same_new hp) upd_same⟩
theorem call_list_ofN : CallR X (.type "list") (rListOfN X.K) := fun pins s σ H xs us Q I r ⟨p, ys, e, hx, q⟩ => call_list_of pins s σ H xs us Q I r ⟨p, ys, e, hx, fun p hp => q p _ hp (same_new hp) upd_same⟩
theorem mt_appendN : MtM X "list.append" rAppendN := fun pins s σ H x vs v us Q I rx rv ⟨l, xs, y, e1, e2, h, hl, q⟩ => mt_append pins s σ H x vs v us Q I rx rv ⟨l, xs, y, e1, e2, h, szlt hl, q _ sameB_upd upd_same⟩
theorem mt_extendN : MtM X "list.extend" rExtendN := fun pins s σ H x vs v us Q I rx rv ⟨l, b, xs, zs, e1, e2, h, h2, hl, q⟩ => mt_extend pins s σ H x vs v us Q I rx rv ⟨l, b, xs, zs, e1, e2, h, h2, szl hl, q _ sameB_upd upd_same⟩
theorem mt_clearN : MtM X "list.clear" rClearN := fun pins s σ H x vs v us Q I rx rv ⟨l, xs, e1, e2, h, q⟩ => mt_clear pins s σ H x vs v us Q I rx rv ⟨l, xs, e1, e2, h, q _ sameB_upd upd_same⟩
theorem set_listN : PSet X rSetLN := fun pins s σ H o i v ov iv vv Q I ro ri rv ⟨p, xs, k, j, e1, e2, h, hj, q⟩ => set_list pins s σ H o i v ov iv vv Q I ro ri rv ⟨p, xs, k, j, e1, e2, h, hj, q _ sameB_upd upd_same⟩
end
/-! ### sets -/
def rSet0N (P : Program) (w : World) : List V → Hp → VK → Prop := fun xs H Q => xs = [] ∧ ∀ p H', H p = none → Same H H' → H' p = some (SetK P w p (fun _ => false) 0) → Q (.ref p) H'
def rSAddN (P : Program) (w : World) : V → List V → Hp → VK → Prop := fun x xs H Q => ∃ (a : Addr) (k : Key) (S : Key → Bool) (n : Nat), x = V.ref a ∧ xs = [kV k] ∧ H a = some (SetK P w a S n) ∧ n + 1 < 4000 ∧
  ∀ H', SameB a H H' → H' a = some (SetK P w a (fun j => S j || decide (j = k)) (if S k = true then n else n + 1)) → Q .non H'
def tSAddN (P : Program) (w : World) (to : TE) (t : TA) : TE := fun σ H Q => to σ H fun x H1 => (∃ a S n, x = V.ref a ∧ H1 a = some (SetK P w a S n)) ∧ t σ H1 fun xs H2 => rSAddN P w x xs H2 Q
section
variable {X : Cx}
theorem cr_set0N : CallR X (.type "set") (rSet0N X.prog X.w) := fun pins s σ H xs us Q I r ⟨e, q⟩ => cr_set0K pins s σ H xs us Q I r ⟨e, fun p hp => q p _ hp (same_new hp) upd_same⟩
theorem pe_saddN {o e : Expr} {es : List Expr} {to : TE} {t : TA} {apos cpos : Pos} (h : ∀ t', PA X (e :: es) t' → PE X (.Call (.Attribute o "add" apos) (e :: es) [] cpos) (tSAddK X.prog X.w to t')) (hm : ∀ t', PA X (e :: es) t' → PE X o to) (ha : PA X (e :: es) t) (mono : ∀ σ H (Q Q' : VK), (∀ v H1, Q v H1 → Q' v H1) → to σ H Q → to σ H Q') : PE X (.Call (.Attribute o "add" apos) (e :: es) [] cpos) (tSAddN X.prog X.w to t) :=
  (h _ ha.mono).weak fun σ H Q q => mono σ H _ _ (fun v H1 ⟨c, q1⟩ => ⟨c, _, q1, fun vs H2 ⟨a, k, S, n, e1, e2, e3, b, q2⟩ => ⟨a, k, S, n, e1, e2, e3, Nat.lt_trans b (by decide), q2 _ sameB_upd upd_same⟩⟩) q
theorem mono_var {i : Nat} : ∀ σ H (Q Q' : VK), (∀ v H1, Q v H1 → Q' v H1) → tVar i σ H Q → tVar i σ H Q' := fun σ H Q Q' h ⟨v, e, q⟩ => ⟨v, e, h _ _ q⟩
end
/-! ### what is never come to -/
theorem pss_no {X : Cx} {st : List Stmt} : PSs X st (fun _ _ _ => False) := ⟨fun _ _ _ _ _ _ h => h.elim⟩
def spNo : Sp := fun _ _ _ _ => False
theorem no_ok {Pg : Program} {w : World} {K : PySem.W.Frag} {mg : Str → Option Value} {base : Heap} {f : Addr} {fd : FuncData} {ps : List Str} : FnOk Pg w K mg base (L2N.CX Pg w) 1 f fd ps spNo := ⟨fun _ _ _ _ h => h.elim, fun _ _ _ _ _ _ _ _ _ _ _ _ _ h => h.elim⟩
/-! ### what is kept -/
theorem same_mutB {H0 H H' : Hp} {D : Addr} (s : Same H0 H) (n : H0 D = none) (b : SameB D H H') : Same H0 H' := fun c o e => b c o (ne_of_none e n) (s c o e)
theorem SameB.refl {H : Hp} {D : Addr} : SameB D H H := fun _ _ _ e => e
theorem SameB.trans {H H1 H2 : Hp} {D : Addr} (a : SameB D H H1) (b : SameB D H1 H2) : SameB D H H2 := fun c o n e => b c o n (a c o n e)
theorem SameB.same {H H1 H2 : Hp} {D : Addr} (a : SameB D H H1) (b : Same H1 H2) : SameB D H H2 := fun c o n e => b c o (a c o n e)
theorem Same.b {H H1 H2 : Hp} {D : Addr} (a : Same H H1) (b : SameB D H1 H2) : SameB D H H2 := fun c o n e => b c o n (a c o e)
theorem ne_lt {H : Hp} {l t : Addr} {xs ys : List V} (h : H l = some (.lst xs)) (g : H t = some (.tup ys)) : t ≠ l := ne_of g h (by intro z; cases z)
section
variable {K : PySem.W.Frag} {H H' : Hp} {D l : Addr} {xs ys : List V}
/-- a list changes: tuples stay -/
theorem keep_t (s : SameB D H H') (hD : H D = some (.lst ys)) (h : SqT K H l xs) : SqT K H' l xs := by
  rcases h with (h | ⟨ob, h⟩) | h
  · exact .inl (.inl (s _ _ (ne_lt hD h) h))
  · exact .inl (.inr ⟨ob, s _ _ (ne_of h hD (by intro z; cases z)) h⟩)
  · exact .inr h
/-- a list changes: another list stays -/
theorem keep_l (s : SameB D H H') (n : l ≠ D) (h : SqL K H l xs) : SqL K H' l xs := by
  rcases h with (h | ⟨ob, h⟩) | h
  · exact .inl (.inl (s _ _ n h))
  · exact .inl (.inr ⟨ob, s _ _ n h⟩)
  · exact .inr h
theorem keep_lt {o : HO} (s : SameB D H H') (hD : H D = some o) (n1 : ∀ xs, o ≠ .lst xs) (n2 : ∀ ob u, o ≠ .frz ob u) (h : SqL K H l xs) : SqL K H' l xs := by
  rcases h with (h | ⟨ob, h⟩) | h
  · exact .inl (.inl (s _ _ (ne_of h hD fun e => n1 _ e.symm) h))
  · exact .inl (.inr ⟨ob, s _ _ (ne_of h hD fun e => n2 _ _ e.symm) h⟩)
  · exact .inr h
theorem keep_rows {ts : List Addr} {rs : List Row} (s : SameB D H H') (hD : H D = some (.lst ys)) (h : Paired (IsRow H) ts rs) : Paired (IsRow H') ts rs :=
  Paired.mapP h fun _ _ e => s _ _ (ne_lt hD e) e
theorem keep_tar {C p d : Addr} {rs : List Row} (s : SameB D H H') (hD : H D = some (.lst ys)) (h : TarAt C H p d rs) : TarAt C H' p d rs := h.keep fun b o hb e => by
  obtain ⟨dx, hob⟩ := h.ob
  rcases hb with rfl | rfl
  · exact s _ _ (ne_of hob hD (by intro z; cases z)) e
  · exact s _ _ (ne_of h.dc hD (by intro z; cases z)) e
theorem keep_tab {P : Addr} (s : SameB D H H') (hD : H D = some (.lst ys)) (h : H P = some (TabO P)) : H' P = some (TabO P) := s _ _ (ne_of h hD (by intro z; cases z)) h
theorem keep_dT {d : Addr} {kvs : List (List Key × V)} (s : SameB D H H') (hD : H D = some (.lst ys)) (h : H d = some (.dT kvs)) : H' d = some (.dT kvs) := s _ _ (ne_of h hD (by intro z; cases z)) h
end
theorem ix_tupS {X : Cx} {K : PySem.W.Frag} (hK : X.K = K := by rfl) : IxR X (rIxT K) := hK ▸ ix_tup
theorem roomE {j k : Nat} {A : Around} {v : Option Value} (r : Room k A) (h : j ≤ k) : L2H.RoomH j (A.mark v) := ⟨(r.mono h).dp, (r.mono h).un⟩
theorem hotU {k : Nat} {A : Around} (r : L2H.RoomH k A) : A.units + 64 < cLine := by have := r.un; omega
theorem cutV_take {xs : List V} {k : Nat} (h : k ≤ xs.length) : cutV xs none (some (k : Int)) = xs.take k := by
  unfold cutV
  rw [HT.sIx_none, HT.sIx_nat, List.drop_zero, Nat.min_eq_left h, Nat.sub_zero]
theorem cutV_drop {xs : List V} {k : Nat} (h : k ≤ xs.length) : cutV xs (some (k : Int)) none = xs.drop k := by
  unfold cutV
  rw [HT.sIx_none, HT.sIx_nat, Nat.min_eq_left h]
  exact List.take_of_length_le (by rw [List.length_drop]; exact Nat.le_refl _)
theorem cutV_mid {xs : List V} {i j : Nat} (hij : i ≤ j) (h : j ≤ xs.length) : cutV xs (some (i : Int)) (some (j : Int)) = (xs.take j).drop i := by
  unfold cutV
  rw [HT.sIx_nat, HT.sIx_nat, Nat.min_eq_left (show i ≤ xs.length by omega), Nat.min_eq_left h, List.drop_take]
/-! ### lists by parts -/
theorem paired_at {α β : Type} {R : α → β → Prop} : ∀ {xs : List α} {ys : List β} {i : Nat} {x : α}, Paired R xs ys → xs[i]? = some x → ∃ y, ys[i]? = some y ∧ R x y
  | _, _, _, _, .nil, h => by simp at h
  | _, _, 0, _, .cons r _, h => by
    simp only [List.getElem?_cons_zero, Option.some.injEq] at h
    subst h
    exact ⟨_, rfl, r⟩
  | _, _, i + 1, x, .cons _ t, h => paired_at (i := i) (x := x) t (by simpa using h)
theorem paired_app {α β : Type} {R : α → β → Prop} : ∀ {xs xs' : List α} {ys ys' : List β}, Paired R xs ys → Paired R xs' ys' → Paired R (xs ++ xs') (ys ++ ys')
  | _, _, _, _, .nil, h => h
  | _, _, _, _, .cons r t, h => .cons r (paired_app t h)
theorem paired_take {α β : Type} {R : α → β → Prop} : ∀ {xs : List α} {ys : List β} (k : Nat), Paired R xs ys → Paired R (xs.take k) (ys.take k)
  | _, _, 0, h => by rw [List.take_zero, List.take_zero]; exact .nil
  | _, _, k + 1, .nil => by rw [List.take_nil, List.take_nil]; exact .nil
  | _, _, k + 1, .cons r t => .cons r (paired_take k t)
theorem paired_drop {α β : Type} {R : α → β → Prop} : ∀ {xs : List α} {ys : List β} (k : Nat), Paired R xs ys → Paired R (xs.drop k) (ys.drop k)
  | _, _, 0, h => h
  | _, _, k + 1, .nil => by rw [List.drop_nil, List.drop_nil]; exact .nil
  | _, _, k + 1, .cons r t => paired_drop k t
theorem good_take {rs : List Row} (g : GoodRows rs) (k : Nat) : GoodRows (rs.take k) := by
  refine ⟨fun r hr => g.ok r (List.mem_of_mem_take hr), ?_⟩
  have h := g.nd
  rw [List.map_take]
  exact h.sublist (List.take_sublist _ _)
/-! ### rows: what stands in them -/
def lookR (rs : List Row) (x y : Str) : V := (valV (rs.map rowK) [.inr x, .inr y]).getD .non
def hitR (rs : List Row) (x y : Str) (i : Nat) : Bool := match rs[i]? with
  | some r => decide (r.1 = x) && decide (r.2.1 = y)
  | none => false
theorem hitR_at {rs : List Row} {x y : Str} {i : Nat} {r : Row} (h : rs[i]? = some r) : hitR rs x y i = (decide (r.1 = x) && decide (r.2.1 = y)) := by unfold hitR; rw [h]
theorem told_iff {rs : List Row} {x y : Str} : isTold rs (.str x) (.str y) = true ↔ (x, y) ∈ rs.map fun r => (r.1, r.2.1) := by
  have e : isTold rs (.str x) (.str y) = (valV (rs.map fun r => (wayK r.1 r.2.1, V.int r.2.2)) (wayK x y)).isSome := rfl
  rw [e]
  constructor
  · intro h
    exact Classical.byContradiction fun n => by rw [way_none (fun r => V.int r.2.2) n] at h; cases h
  · intro h
    cases e2 : valV (rs.map fun r => (wayK r.1 r.2.1, V.int r.2.2)) (wayK x y) with
    | none => exact absurd h (way_new (fun r => V.int r.2.2) e2)
    | some v => rfl
theorem told_pick {rs : List Row} {x y : Str} {f : Nat → V} : (pick (hitR rs x y) f rs.length).isEmpty = !isTold rs (.str x) (.str y) := by
  cases h : isTold rs (.str x) (.str y) with
  | true =>
    obtain ⟨r, hr, e⟩ := List.mem_map.mp (told_iff.mp h)
    obtain ⟨i, hi⟩ := List.getElem?_of_mem hr
    cases h2 : (pick (hitR rs x y) f rs.length).isEmpty with
    | false => rfl
    | true =>
      have h3 := pick_nil.mp h2 i (List.getElem?_eq_some_iff.mp hi).1
      rw [hitR_at hi, decide_eq_true (Prod.mk.inj e).1, decide_eq_true (Prod.mk.inj e).2] at h3
      cases h3
  | false =>
    refine pick_nil.mpr fun i hi => ?_
    have e1 : rs[i]? = some rs[i] := List.getElem?_eq_getElem hi
    rw [hitR_at e1]
    cases h2 : (decide (rs[i].1 = x) && decide (rs[i].2.1 = y)) with
    | false => rfl
    | true =>
      simp only [Bool.and_eq_true, decide_eq_true_eq] at h2
      have := told_iff.mpr (List.mem_map.mpr ⟨rs[i], List.getElem_mem hi, by rw [h2.1, h2.2]⟩)
      rw [h] at this; cases this
theorem uniq_way : ∀ {rs : List Row} {r r' : Row}, (rs.map fun r => (r.1, r.2.1)).Nodup → r ∈ rs → r' ∈ rs → (r.1, r.2.1) = (r'.1, r'.2.1) → r = r'
  | [], _, _, _, h, _, _ => by cases h
  | q :: rs, r, r', nd, h, h', e => by
    rw [List.map_cons] at nd
    have nd1 := List.nodup_cons.mp nd
    rcases List.mem_cons.mp h with h1 | h1
    · rcases List.mem_cons.mp h' with h2 | h2
      · rw [h1, h2]
      · exact absurd (List.mem_map.mpr ⟨r', h2, by rw [← e, h1]⟩) nd1.1
    · rcases List.mem_cons.mp h' with h2 | h2
      · exact absurd (List.mem_map.mpr ⟨r, h1, by rw [e, h2]⟩) nd1.1
      · exact uniq_way nd1.2 h1 h2 e
theorem look_row {rs : List Row} {r : Row} (g : GoodRows rs) (h : r ∈ rs) : lookR rs r.1 r.2.1 = .int r.2.2 := by
  unfold lookR
  cases e : valV (rs.map rowK) [.inr r.1, .inr r.2.1] with
  | none => exact absurd (List.mem_map.mpr ⟨r, h, rfl⟩) (way_new (fun r => V.int r.2.2) e)
  | some v =>
    obtain ⟨r', hr', e2⟩ := List.mem_map.mp (valV_some e)
    have e3 := Prod.mk.inj e2
    have e4 := wayK_inj (show wayK r'.1 r'.2.1 = wayK r.1 r.2.1 from e3.1)
    have e5 := uniq_way g.nd hr' h (by rw [e4.1, e4.2])
    rw [e5] at e3
    rw [← e3.2]; rfl
theorem look_none {rs : List Row} {x y : Str} (h : (x, y) ∉ rs.map fun r => (r.1, r.2.1)) : lookR rs x y = .non := by
  unfold lookR
  rw [show valV (rs.map rowK) [Sum.inr x, Sum.inr y] = none from way_none (fun r => .int r.2.2) h]
  rfl
/-- the price that the rows tell -/
def pri (rs : List Row) (x y : Str) : Option Int := match lookR rs x y with
  | .int n => some n
  | _ => none
def optV : Option Int → V
  | some n => .int n
  | none => .non
theorem look_pri {rs : List Row} {x y : Str} : lookR rs x y = optV (pri rs x y) := by
  have h : lookR rs x y = .non ∨ ∃ n, lookR rs x y = .int n := by
    unfold lookR
    cases e : valV (rs.map rowK) [.inr x, .inr y] with
    | none => exact .inl rfl
    | some v =>
      obtain ⟨r, _, e2⟩ := List.mem_map.mp (valV_some e)
      exact .inr ⟨r.2.2, by rw [← (Prod.mk.inj e2).2]; rfl⟩
  unfold pri
  rcases h with h | ⟨n, h⟩ <;> rw [h] <;> rfl
theorem pri_val {rs : List Row} {x y : Str} {n : Int} (h : pri rs x y = some n) : valV (rs.map rowK) [.inr x, .inr y] = some (.int n) := by
  have e := look_pri (rs := rs) (x := x) (y := y)
  rw [h] at e
  unfold lookR at e
  cases q : valV (rs.map rowK) [.inr x, .inr y] with
  | none => rw [q] at e; cases e
  | some v => rw [q] at e; exact congrArg some e
theorem pri_non {rs : List Row} {x y : Str} (h : pri rs x y = none) : valV (rs.map rowK) [.inr x, .inr y] = none := by
  have e := look_pri (rs := rs) (x := x) (y := y)
  rw [h] at e
  unfold lookR at e
  cases q : valV (rs.map rowK) [.inr x, .inr y] with
  | none => rfl
  | some v =>
    rw [q] at e
    obtain ⟨r, _, e2⟩ := List.mem_map.mp (valV_some q)
    have e3 : v = .non := e
    rw [← (Prod.mk.inj e2).2] at e3
    cases e3
theorem pri_row {rs : List Row} {r : Row} (g : GoodRows rs) (h : r ∈ rs) : pri rs r.1 r.2.1 = some r.2.2 := by
  unfold pri
  rw [look_row g h]
theorem pri_mem {rs : List Row} {x y : Str} {n : Int} (h : pri rs x y = some n) : (x, y, n) ∈ rs := by
  obtain ⟨r, hr, e⟩ := List.mem_map.mp (valV_some (pri_val h))
  have e1 := wayK_inj (show wayK r.1 r.2.1 = wayK x y from (Prod.mk.inj e).1)
  have e2 : r.2.2 = n := V.int.inj (Prod.mk.inj e).2
  have e3 : r = (x, y, n) := by rw [← e1.1, ← e1.2, ← e2]
  rw [← e3]; exact hr
end Fb

namespace Fb
open PySem PySem.Spec PyProof.Rows L2
local macro_rules | `(tactic| walk_at "s") => `(tactic| repeat (first | refine ⟨_, rfl, ?_⟩ | refine ⟨_, _, rfl, rfl, ?_⟩ | refine ⟨_, _, rfl, Or.inl (by assumption), ?_⟩ | refine ⟨rfl, ?_⟩ | refine ⟨(by decide : (0 : Int) < _), ?_⟩ | refine ⟨⟨by decide, by decide⟩, ?_⟩ | refine ⟨_, _, _, rfl, (by assumption), (by first | decide | omega), ?_⟩))
def topS (i : Nat) : Stmt := PySem.Challenge.pw_farebreak_k12_lines.main.body.getD i (.Pass ⟨0, 0, 0, 0⟩)
structure Txt (K : PySem.W.Frag) (mg : Str → Option Value) (a : Ads) : Prop where
  n_len : mg "len" = none
  n_int : mg "int" = none
  n_str : mg "str" = none
  n_list : mg "list" = none
  n_tuple : mg "tuple" = none
  n_dict : mg "dict" = none
  n_isinstance : mg "isinstance" = none
  n_range : mg "range" = none
  n_enumerate : mg "enumerate" = none
  n_all : mg "all" = none
  n_any : mg "any" = none
  n_sum : mg "sum" = none
  n_min : mg "min" = none
  n_max : mg "max" = none
  n_abs : mg "abs" = none
  n_sorted : mg "sorted" = none
  n_zip : mg "zip" = none
  n_reversed : mg "reversed" = none
  n_bool : mg "bool" = none
  n_ValueError : mg "ValueError" = none
  n_set : mg "set" = none
  c_LONGEST_PLACE : ∃ t, mg "LONGEST_PLACE" = some (.int 12 t)
  c_HIGHEST_PRICE : ∃ t, mg "HIGHEST_PRICE" = some (.int 1000000000000 t)
  c_MOST_ROWS : ∃ t, mg "MOST_ROWS" = some (.int 160 t)
  c_MOST_FIGURES : ∃ t, mg "MOST_FIGURES" = some (.int 13 t)
  x_FareError : ExK K mg "FareError" a.FareError veMro
  x_BadPlace : ExK K mg "BadPlace" a.BadPlace veMro
  x_BadPrice : ExK K mg "BadPrice" a.BadPrice veMro
  x_TwiceTold : ExK K mg "TwiceTold" a.TwiceTold veMro
  x_TooMany : ExK K mg "TooMany" a.TooMany veMro
  x_BadLine : ExK K mg "BadLine" a.BadLine veMro
  e_BadPlace : PySem.W.exmOne K (.ref a.BadPlace) (.ref a.FareError) = some true
  i_BadPlace : ExcC K a.BadPlace
  v_BadPlace : PySem.W.kitOne K (.ref a.BadPlace) (.type "ValueError") = some true
  k_BadPlace_BadPlace : PySem.W.kitOne K (.ref a.BadPlace) (.ref a.BadPlace) = some true
  k_BadPlace_BadPrice : PySem.W.kitOne K (.ref a.BadPlace) (.ref a.BadPrice) = some false
  k_BadPlace_TwiceTold : PySem.W.kitOne K (.ref a.BadPlace) (.ref a.TwiceTold) = some false
  k_BadPlace_TooMany : PySem.W.kitOne K (.ref a.BadPlace) (.ref a.TooMany) = some false
  k_BadPlace_BadLine : PySem.W.kitOne K (.ref a.BadPlace) (.ref a.BadLine) = some false
  e_BadPrice : PySem.W.exmOne K (.ref a.BadPrice) (.ref a.FareError) = some true
  i_BadPrice : ExcC K a.BadPrice
  v_BadPrice : PySem.W.kitOne K (.ref a.BadPrice) (.type "ValueError") = some true
  k_BadPrice_BadPlace : PySem.W.kitOne K (.ref a.BadPrice) (.ref a.BadPlace) = some false
  k_BadPrice_BadPrice : PySem.W.kitOne K (.ref a.BadPrice) (.ref a.BadPrice) = some true
  k_BadPrice_TwiceTold : PySem.W.kitOne K (.ref a.BadPrice) (.ref a.TwiceTold) = some false
  k_BadPrice_TooMany : PySem.W.kitOne K (.ref a.BadPrice) (.ref a.TooMany) = some false
  k_BadPrice_BadLine : PySem.W.kitOne K (.ref a.BadPrice) (.ref a.BadLine) = some false
  e_TwiceTold : PySem.W.exmOne K (.ref a.TwiceTold) (.ref a.FareError) = some true
  i_TwiceTold : ExcC K a.TwiceTold
  v_TwiceTold : PySem.W.kitOne K (.ref a.TwiceTold) (.type "ValueError") = some true
  k_TwiceTold_BadPlace : PySem.W.kitOne K (.ref a.TwiceTold) (.ref a.BadPlace) = some false
  k_TwiceTold_BadPrice : PySem.W.kitOne K (.ref a.TwiceTold) (.ref a.BadPrice) = some false
  k_TwiceTold_TwiceTold : PySem.W.kitOne K (.ref a.TwiceTold) (.ref a.TwiceTold) = some true
  k_TwiceTold_TooMany : PySem.W.kitOne K (.ref a.TwiceTold) (.ref a.TooMany) = some false
  k_TwiceTold_BadLine : PySem.W.kitOne K (.ref a.TwiceTold) (.ref a.BadLine) = some false
  e_TooMany : PySem.W.exmOne K (.ref a.TooMany) (.ref a.FareError) = some true
  i_TooMany : ExcC K a.TooMany
  v_TooMany : PySem.W.kitOne K (.ref a.TooMany) (.type "ValueError") = some true
  k_TooMany_BadPlace : PySem.W.kitOne K (.ref a.TooMany) (.ref a.BadPlace) = some false
  k_TooMany_BadPrice : PySem.W.kitOne K (.ref a.TooMany) (.ref a.BadPrice) = some false
  k_TooMany_TwiceTold : PySem.W.kitOne K (.ref a.TooMany) (.ref a.TwiceTold) = some false
  k_TooMany_TooMany : PySem.W.kitOne K (.ref a.TooMany) (.ref a.TooMany) = some true
  k_TooMany_BadLine : PySem.W.kitOne K (.ref a.TooMany) (.ref a.BadLine) = some false
  e_BadLine : PySem.W.exmOne K (.ref a.BadLine) (.ref a.FareError) = some true
  i_BadLine : ExcC K a.BadLine
  v_BadLine : PySem.W.kitOne K (.ref a.BadLine) (.type "ValueError") = some true
  k_BadLine_BadPlace : PySem.W.kitOne K (.ref a.BadLine) (.ref a.BadPlace) = some false
  k_BadLine_BadPrice : PySem.W.kitOne K (.ref a.BadLine) (.ref a.BadPrice) = some false
  k_BadLine_TwiceTold : PySem.W.kitOne K (.ref a.BadLine) (.ref a.TwiceTold) = some false
  k_BadLine_TooMany : PySem.W.kitOne K (.ref a.BadLine) (.ref a.TooMany) = some false
  k_BadLine_BadLine : PySem.W.kitOne K (.ref a.BadLine) (.ref a.BadLine) = some true
  cl_Tariff : Cls K a.Tariff
  na_prices : NoAttr K a.Tariff "_prices"
/-! ### is_place, is_price -/
def spIsPlace (P : Addr) : Sp := fun vs H Q _ => ∃ v : V, vs = [v] ∧ ask v ∧ H P = some (TabO P) ∧ Q (.bl (isP v)) H
def spIsPrice : Sp := fun vs H Q _ => ∃ v : V, vs = [v] ∧ ask v ∧ Q (.bl (isC v)) H
abbrev s_is_place : Stmt := topS 11
abbrev N_is_place : List Str := ["thing"]
theorem sc_is_place : FnScope N_is_place ["thing"] (defScope s_is_place) := ⟨rfl, rfl, rfl, by decide +kernel, rfl, by decide +kernel, by decide +kernel⟩
abbrev s_is_price : Stmt := topS 12
abbrev N_is_price : List Str := ["thing"]
theorem sc_is_price : FnScope N_is_price ["thing"] (defScope s_is_price) := ⟨rfl, rfl, rfl, by decide +kernel, rfl, by decide +kernel, by decide +kernel⟩
section
variable {Pg : Program} {w : World} {K : PySem.W.Frag} {mg : Str → Option Value} {base : Heap} {a : Ads}
theorem ok_is_place {f c P : Addr} {fd : FuncData} (F : FunC K "is_place" "is_place" s_is_place f fd c) (T : Txt K mg a) (TB : GxR.TabB base mg c P) : FnOk Pg w K mg base (L2N.CX Pg w) 2 f fd ["thing"] (spIsPlace P) := by
  refine F.okN sc_is_place (fun vs H Q E h => ?_) (fun A outer s H vs Q E hr h => ?_)
  · obtain ⟨c, rfl, _⟩ := h
    rfl
  · obtain ⟨v, rfl, ha, hP, q⟩ := h
    refine ⟨_, (pss_cons (ps_if (pt_not (pt_val (pe_callB call_isi (by rfl) T.n_isinstance (by decide +kernel) (pa_cons (pv 0) (pa_cons (pe_bty (n := "str") T.n_str (by decide +kernel)) pa_nil))))) (pss_one (ps_ret pe_bl)) pss_nil)
      (pss_cons (ps_if (pt_not (pt_chain op_le op_le pe_int (pe_callB call_len_str (by rfl) T.n_len (by decide +kernel) (pa_cons (pv 0) pa_nil)) (pe_gint T.c_LONGEST_PLACE rfl))) (pss_one (ps_ret pe_bl)) pss_nil)
      (pss_one (ps_ret (pe_allP (i := 0) (GxR.pe_allS hr rfl T.n_all (by decide +kernel) TB rfl ⟨rfl, rfl, by decide +kernel, rfl, rfl, nofree_ex (by decide +kernel)⟩ (pv 0) (elt_btw rfl rfl) (fun _ => rfl))))))), ?_⟩
    rcases ha with rfl | ⟨b, rfl⟩ | ⟨i, rfl⟩ | ⟨z, rfl, hz⟩
    · walk_at "s"
      exact ⟨_, _, _, _, false, rfl, .ty "str", .base .non, kit_ty (by decide +kernel), _, rfl, q⟩
    · walk_at "s"
      exact ⟨_, _, _, _, false, rfl, .ty "str", .base (.bl b), kit_ty (by decide +kernel), _, rfl, q⟩
    · walk_at "s"
      exact ⟨_, _, _, _, false, rfl, .ty "str", .base (.int i), kit_ty (by decide +kernel), _, rfl, q⟩
    · walk_at "s"
      refine ⟨_, _, _, _, true, rfl, .ty "str", .base (.str z), kit_ty (by decide +kernel), _, rfl, ?_⟩
      walk_at "s"
      refine ⟨szl (Nat.le_trans hz.1 (by decide)), ?_⟩
      walk_at "s"
      refine ifD (fun c1 => ?_) (fun c1 => ?_)
      · walk_at "s"
        refine ifND (fun c2 => ?_) (fun c2 => ?_)
        · rw [isP_long c2] at q
          exact q
        · refine ⟨z, rfl, hP, ?_⟩
          rw [isP_mid c1 c2] at q
          rw [show (fun c => !decide (([c] : List Nat) < (Str.ofString "a").cps.toList) && !decide ((Str.ofString "z").cps.toList < ([c] : List Nat))) = letter from funext btw_letter]
          exact q
      · walk_at "s"
        refine ifT1 ?_
        rw [isP_short c1] at q
        exact q
theorem ok_is_price {f : Addr} {fd : FuncData} (F : Fun K "is_price" "is_price" s_is_price f fd) (T : Txt K mg a) : FnOk Pg w K mg base (L2N.CX Pg w) 1 f fd ["thing"] spIsPrice := by
  refine F.okN sc_is_price (fun vs H Q E h => ?_) (fun cdv A outer s H vs Q E hr h => ?_)
  · obtain ⟨c, rfl, _⟩ := h
    rfl
  · obtain ⟨v, rfl, ha, q⟩ := h
    refine ⟨_, (pss_cons (ps_if (PW.pt (pw_or (pt_val (pe_callB call_isi (by rfl) T.n_isinstance (by decide +kernel) (pa_cons (pv 0) (pa_cons (pe_bty (n := "bool") T.n_bool (by decide +kernel)) pa_nil)))) (pw_or1 (pt_not (pt_val (pe_callB call_isi (by rfl) T.n_isinstance (by decide +kernel) (pa_cons (pv 0) (pa_cons (pe_bty (n := "int") T.n_int (by decide +kernel)) pa_nil)))))))) (pss_one (ps_ret pe_bl)) pss_nil)
      (pss_one (ps_ret (pe_chain op_le op_le pe_int (pv 0) (pe_gint T.c_HIGHEST_PRICE rfl))))), ?_⟩
    rcases ha with rfl | ⟨b, rfl⟩ | ⟨i, rfl⟩ | ⟨z, rfl, hz⟩
    · walk_at "s"
      refine ⟨_, _, _, _, false, rfl, .ty "bool", .base .non, kit_ty (by decide +kernel), _, rfl, ?_⟩
      walk_at "s"
      exact ⟨_, _, _, _, false, rfl, .ty "int", .base .non, kit_ty (by decide +kernel), _, rfl, q⟩
    · walk_at "s"
      exact ⟨_, _, _, _, true, rfl, .ty "bool", .base (.bl b), kit_ty (by decide +kernel), _, rfl, q⟩
    · walk_at "s"
      refine ⟨_, _, _, _, false, rfl, .ty "bool", .base (.int i), kit_ty (by decide +kernel), _, rfl, ?_⟩
      walk_at "s"
      refine ⟨_, _, _, _, true, rfl, .ty "int", .base (.int i), kit_ty (by decide +kernel), _, rfl, ?_⟩
      walk_at "s"
      refine ifD (fun c1 => ?_) (fun c1 => ?_)
      · walk_at "s"
        have e : isC (.int i) = decide (i ≤ 1000000000000) := by
          show (decide (0 ≤ i) && decide (i ≤ 1000000000000)) = _
          rw [decide_eq_true c1]; rfl
        rw [e] at q
        exact q
      · have e : isC (.int i) = false := by
          show (decide (0 ≤ i) && decide (i ≤ 1000000000000)) = _
          rw [decide_eq_false c1]; rfl
        rw [e] at q
        exact q
    · walk_at "s"
      refine ⟨_, _, _, _, false, rfl, .ty "bool", .base (.str z), kit_ty (by decide +kernel), _, rfl, ?_⟩
      walk_at "s"
      exact ⟨_, _, _, _, false, rfl, .ty "int", .base (.str z), kit_ty (by decide +kernel), _, rfl, q⟩
end
end Fb

namespace Fb
open PySem PySem.Spec PyProof.Rows L2
local macro_rules | `(tactic| walk_at "s") => `(tactic| repeat (first | refine ⟨_, rfl, ?_⟩ | refine ⟨_, _, rfl, rfl, ?_⟩ | refine ⟨_, _, rfl, Or.inl (by assumption), ?_⟩ | refine ⟨rfl, ?_⟩ | refine ⟨(by decide : (0 : Int) < _), ?_⟩ | refine ⟨⟨by decide, by decide⟩, ?_⟩ | refine ⟨_, _, _, rfl, (by assumption), (by first | decide | omega), ?_⟩))
def spPut (a : Ads) (P : Addr) : Sp := fun vs H Q E => ∃ (p d : Addr) (v1 v2 v3 : V) (rs : List Row), vs = [.ref p, v1, v2, v3] ∧ ask v1 ∧ ask v2 ∧ ask v3 ∧ H P = some (TabO P) ∧ TarAt a.Tariff H p d rs ∧ rs.length ≤ 1000 ∧
  (putDue rs v1 v2 v3 = 0 → ∀ H', SameB d H H' → TarAt a.Tariff H' p d (rs ++ [mkRow v1 v2 v3]) → Q .non H') ∧ (putDue rs v1 v2 v3 ≠ 0 → ∀ H', Same H H' → E (.ref (errOf a (putDue rs v1 v2 v3))) none H')
abbrev s_Tariff_put : Stmt := inClass (topS 13) 1
abbrev N_Tariff_put : List Str := ["self", "here", "there", "price"]
theorem sc_Tariff_put : FnScope N_Tariff_put ["self", "here", "there", "price"] (defScope s_Tariff_put) := ⟨rfl, rfl, rfl, by decide +kernel, rfl, by decide +kernel, by decide +kernel⟩
section
variable {Pg : Program} {w : World} {K : PySem.W.Frag} {mg : Str → Option Value} {base : Heap} {a : Ads}
theorem ok_put {f P : Addr} {fd : FuncData} (F : Fun K "put" "Tariff.put" s_Tariff_put f fd) (T : Txt K mg a) (D_is_place : Dn Pg w K mg base 2 "is_place" ["thing"] (spIsPlace P)) (D_is_price : Dn Pg w K mg base 1 "is_price" ["thing"] spIsPrice) : FnOk Pg w K mg base (L2N.CX Pg w) 3 f fd ["self", "here", "there", "price"] (spPut a P) := by
  refine F.okN sc_Tariff_put (fun vs H Q E h => ?_) (fun cdv A outer s H vs Q E hr h => ?_)
  · obtain ⟨p, d, v1, v2, v3, rs, rfl, _⟩ := h
    rfl
  · obtain ⟨p, d, v1, v2, v3, rs, rfl, h1, h2, h3, hP, hT, hlen, q0, qE⟩ := h
    have hu := hu_of hr
    obtain ⟨dx, hob⟩ := hT.ob
    have hdc := hT.dc
    have npd := hT.ne
    refine ⟨_, (pss_cons (ps_if (pt_not (pt_val (pe_fnS D_is_place (hr.mono (by decide)) passC (pa_cons (pv 1) pa_nil)))) (pss_one (L2N.ps_raise rfl (L2N.takes_of rfl rfl rfl rfl) (L2N.pmk_own PySem.F.excBase_ValueError T.x_BadPlace.x T.x_BadPlace.g T.x_BadPlace.k (raises_own T.x_BadPlace.b T.x_BadPlace.t) rfl))) pss_nil)
      (pss_cons (ps_if (pt_not (pt_val (pe_fnS D_is_place (hr.mono (by decide)) passC (pa_cons (pv 2) pa_nil)))) (pss_one (L2N.ps_raise rfl (L2N.takes_of rfl rfl rfl rfl) (L2N.pmk_own PySem.F.excBase_ValueError T.x_BadPlace.x T.x_BadPlace.g T.x_BadPlace.k (raises_own T.x_BadPlace.b T.x_BadPlace.t) rfl))) pss_nil)
      (pss_cons (ps_if (pt_cmpR op_eq (pv 1) (pv 2) (nomark _)) (pss_one (L2N.ps_raise rfl (L2N.takes_of rfl rfl rfl rfl) (L2N.pmk_own PySem.F.excBase_ValueError T.x_BadPlace.x T.x_BadPlace.g T.x_BadPlace.k (raises_own T.x_BadPlace.b T.x_BadPlace.t) rfl))) pss_nil)
      (pss_cons (ps_if (pt_not (pt_val (pe_fnS D_is_price (hr.mono (by decide)) passC (pa_cons (pv 3) pa_nil)))) (pss_one (L2N.ps_raise rfl (L2N.takes_of rfl rfl rfl rfl) (L2N.pmk_own PySem.F.excBase_ValueError T.x_BadPrice.x T.x_BadPrice.g T.x_BadPrice.k (raises_own T.x_BadPrice.b T.x_BadPrice.t) rfl))) pss_nil)
      (pss_cons (ps_if (pt_cmp (pc_din hu (pe_tup (pa_cons (pv 1) (pa_cons (pv 2) pa_nil))) (pe_fld (pv 0) rfl))) (pss_one (L2N.ps_raise rfl (L2N.takes_of rfl rfl rfl rfl) (pmk_ownN1 PySem.F.excBase_ValueError T.x_TwiceTold.x T.x_TwiceTold.g T.x_TwiceTold.k (raises_own T.x_TwiceTold.b T.x_TwiceTold.t) rfl (pe_joined (PJ.cons pe_str (PJ.cons (pe_fmt (pv 1)) (PJ.cons pe_str (PJ.cons (pe_fmt (pv 2)) (PJ.cons pe_str PJ.nil))))))))) pss_nil)
      (pss_cons (ps_if (pt_cmpR op_ge (pe_callB call_len_dT (by rfl) T.n_len (by decide +kernel) (pa_cons (pe_fld (pv 0) rfl) pa_nil)) (pe_gint T.c_MOST_ROWS rfl) (nomark _)) (pss_one (L2N.ps_raise rfl (L2N.takes_of rfl rfl rfl rfl) (pmk_ownN1 PySem.F.excBase_ValueError T.x_TooMany.x T.x_TooMany.g T.x_TooMany.k (raises_own T.x_TooMany.b T.x_TooMany.t) rfl (pe_joined (PJ.cons pe_str (PJ.cons (pe_fmt (pe_gint T.c_MOST_ROWS rfl)) (PJ.cons pe_str PJ.nil))))))) pss_nil)
      (pss_one (ps_dput hu (pe_fld (pv 0) rfl) (pe_tup (pa_cons (pv 1) (pa_cons (pv 2) pa_nil))) (pv 3) rfl)))))))), ?_⟩
    walk_at "s"
    refine ⟨h1, hP, ?_⟩
    walk_at "s"
    refine ifNB (fun c1 => ?_) (fun c1 => ?_)
    · have e : putDue rs v1 v2 v3 = 1 := by unfold putDue; rw [c1]; rfl
      rw [e] at qE
      exact qE (by decide) _ (Same.refl _)
    walk_at "s"
    refine ⟨h2, hP, ?_⟩
    walk_at "s"
    refine ifNB (fun c2 => ?_) (fun c2 => ?_)
    · have e : putDue rs v1 v2 v3 = 1 := by unfold putDue; rw [if_pos c1, c2]; rfl
      rw [e] at qE
      exact qE (by decide) _ (Same.refl _)
    obtain ⟨z1, rfl⟩ := isP_str c1
    obtain ⟨z2, rfl⟩ := isP_str c2
    walk_at "s"
    refine ifD (fun c3 => ?_) (fun c3 => ?_)
    · have e : putDue rs (.str z1) (.str z2) v3 = 1 := by unfold putDue; rw [if_pos c1, if_pos c2, if_pos c3]
      rw [e] at qE
      exact qE (by decide) _ (Same.refl _)
    walk_at "s"
    refine ⟨h3, ?_⟩
    walk_at "s"
    refine ifNB (fun c4 => ?_) (fun c4 => ?_)
    · have e : putDue rs (.str z1) (.str z2) v3 = 2 := by unfold putDue; rw [if_pos c1, if_pos c2, if_neg c3, c4]; rfl
      rw [e] at qE
      exact qE (by decide) _ (Same.refl _)
    obtain ⟨n, rfl⟩ : ∃ n, v3 = .int n := by
      cases v3 with
      | int n => exact ⟨n, rfl⟩
      | _ => cases c4
    walk_at "s"
    refine ⟨(by show 2 ≤ sizeLine; decide), fun t ht => ?_⟩
    have s1 : Same H (upd H t (.tup [.str z1, .str z2])) := same_new ht
    have hob1 := s1 _ _ hob
    have hdc1 := s1 _ _ hdc
    walk_at "s"
    refine ⟨p, a.Tariff, dx, _, .ref d, rfl, hob1, T.cl_Tariff, T.na_prices, prices_lookup d, d, _, rfl, DGet.t (k := [.inr z1, .inr z2]) hdc1 upd_same, ?_⟩
    have ek : isTold rs (.str z1) (.str z2) = (valV (rs.map rowK) [.inr z1, .inr z2]).isSome := rfl
    have l1 : z1.length ≤ 12 := by
      have := c1
      unfold isP at this
      simp only [Bool.and_eq_true, decide_eq_true_eq] at this
      exact this.1.2
    have l2 : z2.length ≤ 12 := by
      have := c2
      unfold isP at this
      simp only [Bool.and_eq_true, decide_eq_true_eq] at this
      exact this.1.2
    walk_at "s"
    refine ifB (fun c5 => ?_) (fun c5 => ?_)
    · have e : putDue rs (.str z1) (.str z2) (.int n) = 3 := by unfold putDue; rw [if_pos c1, if_pos c2, if_neg c3, if_pos c4, if_pos (by rw [ek]; exact c5)]
      rw [e] at qE
      have la := lapp (show (Str.empty ++ Str.ofString "the way from ").length ≤ 50 by decide +kernel) l1
      have lb := lapp la (show (Str.ofString " to ").length ≤ 10 by decide +kernel)
      have lc := lapp lb l2
      have ld := lapp lc (show (Str.ofString " has a row already").length ≤ 50 by decide +kernel)
      walk_at "s"
      refine ⟨by decide +kernel, ?_⟩
      walk_at "s"
      refine .inl ⟨z1, rfl, szl (by omega), ?_⟩
      walk_at "s"
      refine ⟨szl (by omega), ?_⟩
      walk_at "s"
      refine ⟨szl (by omega), ?_⟩
      walk_at "s"
      refine .inl ⟨z2, rfl, szl (by omega), ?_⟩
      walk_at "s"
      refine ⟨szl (by omega), ?_⟩
      walk_at "s"
      exact ⟨szl (by omega), qE (by decide) _ s1⟩
    have c5' : valV (rs.map rowK) [.inr z1, .inr z2] = none := by simpa using c5
    walk_at "s"
    refine ⟨p, a.Tariff, dx, _, .ref d, rfl, hob1, T.cl_Tariff, T.na_prices, prices_lookup d, d, _, rfl, hdc1, ?_⟩
    walk_at "s"
    refine ifD (fun c6 => ?_) (fun c6 => ?_)
    · rw [List.length_map] at c6
      have e : putDue rs (.str z1) (.str z2) (.int n) = 4 := by unfold putDue; rw [if_pos c1, if_pos c2, if_neg c3, if_pos c4, if_neg (by rw [ek]; simp [c5']), if_pos (by omega)]
      rw [e] at qE
      walk_at "s"
      refine ⟨by decide +kernel, ?_⟩
      walk_at "s"
      refine .inr ⟨160, rfl, by decide, ?_⟩
      walk_at "s"
      refine ⟨by decide +kernel, ?_⟩
      walk_at "s"
      exact ⟨by decide +kernel, qE (by decide) _ s1⟩
    rw [List.length_map] at c6
    have e : putDue rs (.str z1) (.str z2) (.int n) = 0 := by unfold putDue; rw [if_pos c1, if_pos c2, if_neg c3, if_pos c4, if_neg (by rw [ek]; simp [c5']), if_neg (by omega)]
    walk_at "s"
    refine ⟨p, a.Tariff, dx, _, .ref d, rfl, hob1, T.cl_Tariff, T.na_prices, prices_lookup d, ?_⟩
    walk_at "s"
    refine ⟨(by show 2 ≤ sizeLine; decide), fun u hu2 => ?_⟩
    have s2 : Same H (upd (upd H t (.tup [.str z1, .str z2])) u (.tup [.str z1, .str z2])) := Same.trans s1 (same_new hu2)
    have hob2 := s2 _ _ hob
    have hdc2 := s2 _ _ hdc
    refine ⟨d, _, rfl, DPut.t (k := [.inr z1, .inr z2]) hdc2 upd_same (szlt (by rw [List.length_map]; omega)), ?_⟩
    refine q0 e _ (fun b o nb hb => by rw [upd_ne nb]; exact s2 _ _ hb) ⟨⟨dx, by rw [upd_ne npd]; exact hob2⟩, ?_⟩
    rw [upd_same, rowK_put c5']
    rfl
end
end Fb

namespace Fb
open PySem PySem.Spec PyProof.Rows L2
local macro_rules | `(tactic| walk_at "s") => `(tactic| repeat (first | refine ⟨_, rfl, ?_⟩ | refine ⟨_, _, rfl, rfl, ?_⟩ | refine ⟨_, _, rfl, Or.inl (by assumption), ?_⟩ | refine ⟨rfl, ?_⟩ | refine ⟨(by decide : (0 : Int) < _), ?_⟩ | refine ⟨⟨by decide, by decide⟩, ?_⟩ | refine ⟨_, _, _, rfl, (by assumption), (by first | decide | omega), ?_⟩))
theorem but_l {K : PySem.W.Frag} {H H' : Hp} {D l : Addr} {o : HO} {xs : List V} (s : SameB D H H') (hD : H D = some o) (n1 : ∀ xs, o ≠ .lst xs) (n2 : ∀ ob u, o ≠ .frz ob u) (h : SqL K H l xs) : SqL K H' l xs := by
  rcases h with (h | ⟨ob, h⟩) | h
  · exact .inl (.inl (s _ _ (ne_of h hD fun e => n1 _ e.symm) h))
  · exact .inl (.inr ⟨ob, s _ _ (ne_of h hD fun e => n2 _ _ e.symm) h⟩)
  · exact .inr h
theorem but_t {K : PySem.W.Frag} {H H' : Hp} {D l : Addr} {o : HO} {xs : List V} (s : SameB D H H') (hD : H D = some o) (n1 : ∀ xs, o ≠ .tup xs) (n2 : ∀ ob u, o ≠ .frz ob u) (h : SqT K H l xs) : SqT K H' l xs := by
  rcases h with (h | ⟨ob, h⟩) | h
  · exact .inl (.inl (s _ _ (ne_of h hD fun e => n1 _ e.symm) h))
  · exact .inl (.inr ⟨ob, s _ _ (ne_of h hD fun e => n2 _ _ e.symm) h⟩)
  · exact .inr h
theorem take_step {rs : List Row} {gs : List (V × V × V)} {i : Nat} {g : V × V × V} (h : gs[i]? = some g) :
    takeRows rs (gs.drop i) = if putDue rs g.1 g.2.1 g.2.2 = 0 then takeRows (rs ++ [mkRow g.1 g.2.1 g.2.2]) (gs.drop (i + 1)) else (putDue rs g.1 g.2.1 g.2.2, rs) := by
  obtain ⟨hl, e⟩ := List.getElem?_eq_some_iff.mp h
  rw [List.drop_eq_getElem_cons hl, e]
  rfl
def spInit (K : PySem.W.Frag) (a : Ads) (P : Addr) : Sp := fun vs H Q E => ∃ (p dx l : Addr) (ts : List Addr) (gs : List (V × V × V)), vs = [.ref p, .ref l] ∧ H p = some (.ins a.Tariff dx []) ∧ H P = some (TabO P) ∧ SqL K H l (ts.map V.ref) ∧
  Paired (IsGiven K H) ts gs ∧ (∀ g ∈ gs, ask g.1 ∧ ask g.2.1 ∧ ask g.2.2) ∧ gs.length ≤ 400 ∧
  ((takeRows [] gs).1 = 0 → ∀ d H', H d = none → SameB p H H' → TarAt a.Tariff H' p d (takeRows [] gs).2 → Q .non H') ∧
  ((takeRows [] gs).1 ≠ 0 → ∀ H', SameB p H H' → E (.ref (errOf a (takeRows [] gs).1)) none H')
def spPrice (a : Ads) : Sp := fun vs H Q _ => ∃ (p d : Addr) (x y : Str) (rs : List Row), vs = [.ref p, .str x, .str y] ∧ TarAt a.Tariff H p d rs ∧ ∀ H', Same H H' → Q (lookR rs x y) H'
def spTold (a : Ads) : Sp := fun vs H Q _ => ∃ (p d : Addr) (rs : List Row), vs = [.ref p] ∧ TarAt a.Tariff H p d rs ∧ rs.length ≤ 1000 ∧
  ∀ (q : Addr) (H' : Hp) (ts : List Addr), H q = none → Same H H' → H' q = some (.lst (ts.map V.ref)) → Paired (IsRow H') ts rs → Q (.ref q) H'
abbrev s_Tariff_init : Stmt := inClass (topS 13) 0
abbrev N_Tariff_init : List Str := ["self", "rows", "here", "there", "price"]
theorem sc_Tariff_init : FnScope N_Tariff_init ["self", "rows"] (defScope s_Tariff_init) := ⟨rfl, rfl, rfl, by decide +kernel, rfl, by decide +kernel, by decide +kernel⟩
abbrev s_Tariff_price : Stmt := inClass (topS 13) 2
abbrev N_Tariff_price : List Str := ["self", "here", "there"]
theorem sc_Tariff_price : FnScope N_Tariff_price ["self", "here", "there"] (defScope s_Tariff_price) := ⟨rfl, rfl, rfl, by decide +kernel, rfl, by decide +kernel, by decide +kernel⟩
abbrev s_Tariff_told : Stmt := inClass (topS 13) 3
abbrev N_Tariff_told : List Str := ["self", "here", "there", "price"]
theorem sc_Tariff_told : FnScope N_Tariff_told ["self"] (defScope s_Tariff_told) := ⟨rfl, rfl, rfl, by decide +kernel, rfl, by decide +kernel, by decide +kernel⟩
section
variable {Pg : Program} {w : World} {K : PySem.W.Frag} {mg : Str → Option Value} {base : Heap} {a : Ads}
theorem ok_price {f : Addr} {fd : FuncData} (F : Fun K "price" "Tariff.price" s_Tariff_price f fd) (T : Txt K mg a) : FnOk Pg w K mg base (L2N.CX Pg w) 1 f fd ["self", "here", "there"] (spPrice a) := by
  refine F.okN sc_Tariff_price (fun vs H Q E h => ?_) (fun cdv A outer s H vs Q E hr h => ?_)
  · obtain ⟨p, d, x, y, rs, rfl, _⟩ := h
    rfl
  · obtain ⟨p, d, x, y, rs, rfl, hT, q⟩ := h
    have hu := hu_of hr
    obtain ⟨dx, hob⟩ := hT.ob
    refine ⟨_, (pss_one (ps_ret (pe_dget1 hu (pe_fld (pv 0) rfl) (pe_tup (pa_cons (pv 1) (pa_cons (pv 2) pa_nil))) ⟨rfl, rfl, rfl, rfl⟩))), ?_⟩
    walk_at "s"
    refine ⟨p, a.Tariff, dx, _, .ref d, rfl, hob, T.cl_Tariff, T.na_prices, prices_lookup d, d, rfl, .inr ⟨_, .inl hT.dc⟩, ?_⟩
    walk_at "s"
    refine ⟨(by show 2 ≤ sizeLine; decide), fun t ht => ?_⟩
    exact ⟨_, DGet.t (k := [.inr x, .inr y]) ((same_new ht) _ _ hT.dc) upd_same, q _ (same_new ht)⟩
theorem ok_init {f P : Addr} {fd : FuncData} (F : Fun K "__init__" "Tariff.__init__" s_Tariff_init f fd) (T : Txt K mg a) (D_put : Dm Pg w K mg base 3 a.Tariff "put" ["self", "here", "there", "price"] (spPut a P)) : FnOk Pg w K mg base (L2N.CX Pg w) 4 f fd ["self", "rows"] (spInit K a P) := by
  refine F.okN sc_Tariff_init (fun vs H Q E h => ?_) (fun cdv A outer s H vs Q E hr h => ?_)
  · obtain ⟨p, dx, l, ts, gs, rfl, _⟩ := h
    rfl
  · obtain ⟨p, dx, l, ts, gs, rfl, hp, hP, hl, hg, hask, hlen, q0, qE⟩ := h
    have PO : PassesOwn (model Pg w) (A.deeper (envOfC "Tariff.__init__" (defScope s_Tariff_init) s.heap.objs.size f cdv)) (envOfC "Tariff.__init__" (defScope s_Tariff_init) s.heap.objs.size f cdv) (cxOf (L2N.CX Pg w) Pg w K mg base N_Tariff_init "Tariff.__init__" (defScope s_Tariff_init) f cdv A outer s H E).xe := passes_of rfl
    refine ⟨_, (pss_cons (ps_fld (pv 0) pe_dnewT rfl)
      (pss_one (ps_for PO rfl (pi_list (pv 1)) (pg_tup rfl (pgs_cons (pg_name (i := 2) sc_Tariff_init.nd rfl (by first | exact Or.inl rfl | exact Or.inr rfl)) (pgs_cons (pg_name (i := 3) sc_Tariff_init.nd rfl (by first | exact Or.inl rfl | exact Or.inr rfl)) (pgs_cons (pg_name (i := 4) sc_Tariff_init.nd rfl (by first | exact Or.inl rfl | exact Or.inr rfl)) pgs_nil))))
        (pss_one (ps_expr (pe_mdS (pv 0) T.cl_Tariff D_put (hr.mono (by decide)) (fun σ => L2N.passAt (L2N.takes_of rfl rfl rfl rfl) σ) (pa_cons (pv 2) (pa_cons (pv 3) (pa_cons (pv 4) pa_nil))))))))), ?_⟩
    intro d hd
    have npd : p ≠ d := ne_of_none hp hd
    have lts : ts.length = gs.length := Paired.length hg
    refine ⟨_, rfl, p, a.Tariff, dx, [], rfl, (by rw [upd_ne npd]; exact hp), T.cl_Tariff, T.na_prices, (by show 0 < 1000; decide), ?_⟩
    have sb : SameB p H (upd (upd H d (.dT [])) p (.ins a.Tariff dx (putF "_prices" (.ref d) []))) := fun b o nb e => by rw [upd_ne nb, upd_ne (ne_of_none e hd)]; exact e
    have T0 : TarAt a.Tariff (upd (upd H d (.dT [])) p (.ins a.Tariff dx (putF "_prices" (.ref d) []))) p d [] := ⟨⟨dx, upd_same⟩, by rw [upd_ne npd.symm, upd_same]; rfl⟩
    have seq : ∀ H', SameB p H H' → SqL K H' l (ts.map V.ref) := fun H' s => but_l s hp (fun _ z => nomatch z) (fun _ _ z => nomatch z) hl
    have giv : ∀ H' t g, SameB p H H' → IsGiven K H t g → IsGiven K H' t g := fun H' t g s h => but_t s hp (fun _ z => nomatch z) (fun _ _ z => nomatch z) h
    walk_at "s"
    refine ⟨⟨_, seq _ sb⟩, for_list (K := K) (a := l) (xs := ts.map V.ref) (fun i σ H' => ∃ rs v1 v2 v3, σ = [some (.ref p), some (.ref l), v1, v2, v3] ∧ SameB p H H' ∧ TarAt a.Tariff H' p d rs ∧ rs.length ≤ i ∧ takeRows [] gs = takeRows rs (gs.drop i))
      ⟨[], none, none, none, rfl, sb, T0, Nat.le_refl _, rfl⟩ (fun i σ H' _ ⟨_, _, _, _, _, s2, _⟩ => seq _ s2) ?_ ?_⟩
    · rintro i y σ H2 hi ⟨rs, v1, v2, v3, rfl, s2, T2, hlr, ht⟩
      rw [List.getElem?_map] at hi
      obtain ⟨t, ht1, rfl⟩ := Option.map_eq_some_iff.mp hi
      have hil := (List.getElem?_eq_some_iff.mp ht1).1
      obtain ⟨g, hg1, hgv⟩ := paired_at hg ht1
      obtain ⟨a1, a2, a3⟩ := hask g (List.mem_of_getElem? hg1)
      obtain ⟨dx2, hob2⟩ := T2.ob
      have hP2 : H2 P = some (TabO P) := s2 _ _ (ne_of hP hp (by intro z; cases z)) hP
      refine ⟨_, _, rfl, giv _ _ _ s2 hgv, rfl, _, _, rfl, _, _, rfl, _, _, rfl, rfl, ?_⟩
      have step := take_step (rs := rs) hg1
      walk_at "s"
      refine ⟨p, dx2, _, rfl, hob2, prices_no d (by decide), ?_⟩
      walk_at "s"
      refine ⟨p, d, _, _, _, rs, rfl, a1, a2, a3, hP2, T2, by omega, fun e H3 s3 T3 => ?_, fun e H3 s3 => ?_⟩
      · rw [if_pos e] at step
        refine ⟨_, _, _, _, rfl, fun b o nb hb => s3 _ _ (ne_of_none hb hd) (s2 _ _ nb hb), T3, by rw [List.length_append]; simp; omega, by rw [ht, step]⟩
      · rw [if_neg e] at step
        rw [ht, step] at qE
        exact qE e _ fun b o nb hb => s3 _ _ (s2 _ _ nb hb)
    · rintro σ H2 ⟨rs, v1, v2, v3, rfl, s2, T2, hlr, ht⟩
      rw [List.length_map, lts, List.drop_length] at ht
      rw [ht] at q0
      exact q0 rfl d H2 hd s2 T2
end
end Fb

namespace Fb
open PySem PySem.Spec PyProof.Rows L2
local macro_rules | `(tactic| walk_at "s") => `(tactic| repeat (first | refine ⟨_, rfl, ?_⟩ | refine ⟨_, _, rfl, rfl, ?_⟩ | refine ⟨_, _, rfl, Or.inl (by assumption), ?_⟩ | refine ⟨rfl, ?_⟩ | refine ⟨(by decide : (0 : Int) < _), ?_⟩ | refine ⟨⟨by decide, by decide⟩, ?_⟩ | refine ⟨_, _, _, rfl, (by assumption), (by first | decide | omega), ?_⟩))
section
variable {Pg : Program} {w : World} {K : PySem.W.Frag} {mg : Str → Option Value} {base : Heap} {a : Ads}
theorem ok_told {f : Addr} {fd : FuncData} (F : Fun K "told" "Tariff.told" s_Tariff_told f fd) (T : Txt K mg a) : FnOk Pg w K mg base (L2N.CX Pg w) 1 f fd ["self"] (spTold a) := by
  refine F.okN sc_Tariff_told (fun vs H Q E h => ?_) (fun cdv A outer s H vs Q E hr h => ?_)
  · obtain ⟨p, d, rs, rfl, _⟩ := h
    rfl
  · obtain ⟨p, d, rs, rfl, hT, hlen, q⟩ := h
    obtain ⟨dx, hob⟩ := hT.ob
    have hdc := hT.dc
    have npd := hT.ne
    refine ⟨_, (pss_one (ps_ret (pe_lock (pe_lc (own := [("price", 3), ("here", 1), ("there", 2)]) (g := (gTup K 2 (gCons (gTup K 2 (gCons (gName 1) (gCons (gName 2) gNil))) (gCons (gName 3) gNil)))) (tt := tYes) rfl sc_Tariff_told.nd (pi_itemsT (pe_fld (pv 0) rfl)) (blkOk_by (own := [("price", 3), ("here", 1), ("there", 2)]) (N := N_Tariff_told) (sc := (defScope s_Tariff_told)) (by decide +kernel)) (fun _ _ _ _ _ => (pg_tup rfl (pgs_cons (pg_tup rfl (pgs_cons (pg_name (i := 1) sc_Tariff_told.nd rfl (by first | exact Or.inl rfl | exact Or.inr rfl)) (pgs_cons (pg_name (i := 2) sc_Tariff_told.nd rfl (by first | exact Or.inl rfl | exact Or.inr rfl)) pgs_nil))) (pgs_cons (pg_name (i := 3) sc_Tariff_told.nd rfl (by first | exact Or.inl rfl | exact Or.inr rfl)) pgs_nil)))) (fun _ _ _ _ _ => pts_nil) (fun _ _ _ _ _ => (pe_tup (pa_cons (pv 1) (pa_cons (pv 2) (pa_cons (pv 3) pa_nil))))))))), ?_⟩
    refine ⟨d, _, hdc, trivial, fun od => ?_⟩
    have hob1 : upd H d (.frz od (.dT (rs.map rowK))) p = some (.ins a.Tariff dx [("_prices", .ref d)]) := by rw [upd_ne npd]; exact hob
    walk_at "s"
    refine ⟨p, a.Tariff, dx, _, .ref d, rfl, hob1, T.cl_Tariff, T.na_prices, prices_lookup d, d, od, _, rfl, upd_same, fun D hD => ?_⟩
    refine lc_itemsT (fun i v H' => ∃ t, v = .ref t ∧ t ≠ D ∧ ∃ r, rs[i]? = some r ∧ IsRow H' t r) ?_ hD upd_same (by rw [List.length_map]; omega) ?_ ?_ ?_
    · rintro i v H2 H3 sb ⟨t, e, n, r, hr, hx⟩
      exact ⟨t, e, n, r, hr, sb _ _ n hx⟩
    · intro i k v U u H2 acc hkv s2 hDl hU hu Q2 q2
      rw [List.getElem?_map] at hkv
      obtain ⟨r, hr, ek⟩ := Option.map_eq_some_iff.mp hkv
      cases ek
      refine ⟨_, _, rfl, SqT.of hU, rfl, _, _, rfl, ?_⟩
      refine ⟨_, _, rfl, SqT.of hu, rfl, _, _, rfl, _, _, rfl, rfl, ?_⟩
      refine ⟨_, _, rfl, rfl, rfl, ?_⟩
      walk_at "s"
      refine ⟨(by show 3 ≤ sizeLine; decide), fun t ht => ?_⟩
      exact q2 _ _ (same_new ht) ⟨t, rfl, (ne_of_none hDl ht).symm, r, hr, upd_same⟩
    · exact mono_tup (mono_cons (mono_tup (mono_cons mono_name (mono_cons mono_name mono_nil))) (mono_cons mono_name mono_nil))
    · intro H2 ys s2 hDl hl hr
      rw [List.length_map] at hl
      obtain ⟨ts, rfl, hp⟩ := pair_of (R := fun t r => t ≠ D ∧ IsRow H2 t r) hl fun i v hv => by
        obtain ⟨t, e, n, r, h1, h2⟩ := hr i v hv
        exact ⟨t, e, r, h1, n, h2⟩
      have hdf : H2 d = some (.frz od (.dT (rs.map rowK))) := s2 _ _ upd_same
      have back : ∀ b o, b ≠ d → H2 b = some o → upd H2 d (.dT (rs.map rowK)) b = some o := fun b o nb e => by rw [upd_ne nb]; exact e
      have s3 : Same H (upd H2 d (.dT (rs.map rowK))) := fun b o e => by
        by_cases hb : b = d
        · subst hb
          rw [hdc] at e
          cases e
          exact upd_same
        · rw [upd_ne hb]
          exact s2 _ _ (by rw [upd_ne hb]; exact e)
      have hDn : H D = none := by
        have nD : D ≠ d := fun z => by rw [z, upd_same] at hD; cases hD
        rw [upd_ne nD] at hD
        exact hD
      refine ⟨hdf, q D _ ts hDn s3 (back _ _ (fun z => by rw [z, hdf] at hDl; cases hDl) hDl) (Paired.mapP hp fun t r ⟨_, h2⟩ => ?_)⟩
      exact back t _ (fun z => by unfold IsRow at h2; rw [z, hdf] at h2; cases h2) h2
end
end Fb

namespace Fb
open PySem PySem.Spec PyProof.Rows L2
/-! ### journeys and stretches -/
abbrev Pri := Str → Str → Option Int
def xat (xs : List Str) (i : Nat) : Str := xs.getD i Str.empty
theorem xat_get {xs : List Str} {i : Nat} (h : i < xs.length) : xs[i]? = some (xat xs i) := by
  unfold xat
  rw [List.getD_eq_getElem?_getD, List.getElem?_eq_getElem h]; rfl
theorem xat_at {xs : List Str} {i : Nat} {j : Int} (h : i < xs.length) (e : j = (i : Int)) : atI (xs.map V.str) j = some (.str (xat xs i)) := by
  subst e
  refine atI_of (by omega) ?_
  rw [Int.toNat_natCast, List.getElem?_map, xat_get h]; rfl
theorem xat_of {xs : List Str} {i : Nat} {z : Str} (h : xs[i]? = some z) : xat xs i = z := by
  unfold xat
  rw [List.getD_eq_getElem?_getD, h]; rfl
def stp (P : Pri) (xs : List Str) (i j : Nat) : Option Int := P (xat xs i) (xat xs j)
def again (xs : List Str) (i k : Nat) : Prop := ∃ m, i ≤ m ∧ m < k ∧ xat xs m = xat xs k
def dear (P : Pri) (xs : List Str) (p : Int) (k m : Nat) : Prop := ∃ q, stp P xs k m = some q ∧ p < q
inductive Fault
  | none | price | twice (k : Nat) | dearer (k m : Nat)
inductive IsF (P : Pri) (xs : List Str) (i j : Nat) : Fault → Prop
  | price (h : stp P xs i j = none) : IsF P xs i j .price
  | twice {p : Int} {k : Nat} (hp : stp P xs i j = some p) (h1 : i ≤ k) (h2 : k ≤ j) (ha : again xs i k) (hn : ∀ l, i ≤ l → l < k → ¬ again xs i l) : IsF P xs i j (.twice k)
  | dearer {p : Int} {k m : Nat} (hp : stp P xs i j = some p) (hn : ∀ l, i ≤ l → l ≤ j → ¬ again xs i l) (h1 : i ≤ k) (h2 : k < m) (h3 : m ≤ j) (hd : dear P xs p k m)
      (hk : ∀ k' m', i ≤ k' → k' < k → k' < m' → m' ≤ j → ¬ dear P xs p k' m') (hm : ∀ m', k < m' → m' < m → ¬ dear P xs p k m') : IsF P xs i j (.dearer k m)
  | none {p : Int} (hp : stp P xs i j = some p) (hn : ∀ l, i ≤ l → l ≤ j → ¬ again xs i l) (hd : ∀ k m, i ≤ k → k < m → m ≤ j → ¬ dear P xs p k m) : IsF P xs i j .none
theorem IsF.uniq {P : Pri} {xs : List Str} {i j : Nat} {f g : Fault} (a : IsF P xs i j f) (b : IsF P xs i j g) : f = g := by
  cases a with
  | price h =>
    cases b with
    | price => rfl
    | twice hp => rw [h] at hp; cases hp
    | dearer hp => rw [h] at hp; cases hp
    | none hp => rw [h] at hp; cases hp
  | @twice p k hp h1 h2 ha hn =>
    cases b with
    | price h => rw [h] at hp; cases hp
    | @twice p' k' hp' h1' h2' ha' hn' =>
      have e : k = k' := by
        rcases Nat.lt_trichotomy k k' with h | h | h
        · exact absurd ha (hn' k h1 h)
        · exact h
        · exact absurd ha' (hn k' h1' h)
      rw [e]
    | dearer _ hn' => exact absurd ha (hn' k h1 h2)
    | none _ hn' => exact absurd ha (hn' k h1 h2)
  | @dearer p k m hp hn h1 h2 h3 hd hk hm =>
    cases b with
    | price h => rw [h] at hp; cases hp
    | twice _ h1' h2' ha' => exact absurd ha' (hn _ h1' h2')
    | @dearer p' k' m' hp' hn' h1' h2' h3' hd' hk' hm' =>
      rw [hp] at hp'
      have ep := Option.some.inj hp'
      subst ep
      have e : k = k' := by
        rcases Nat.lt_trichotomy k k' with h | h | h
        · exact absurd hd (hk' k m h1 h h2 h3)
        · exact h
        · exact absurd hd' (hk k' m' h1' h h2' h3')
      subst e
      have e2 : m = m' := by
        rcases Nat.lt_trichotomy m m' with h | h | h
        · exact absurd hd (hm' m h2 h)
        · exact h
        · exact absurd hd' (hm m' h2' h)
      rw [e2]
    | none hp' _ hd' =>
      rw [hp] at hp'
      have ep := Option.some.inj hp'
      subst ep
      exact absurd hd (hd' k m h1 h2 h3)
  | @none p hp hn hd =>
    cases b with
    | price h => rw [h] at hp; cases hp
    | twice _ h1' h2' ha' => exact absurd ha' (hn _ h1' h2')
    | @dearer p' k' m' hp' hn' h1' h2' h3' hd' =>
      rw [hp] at hp'
      have ep := Option.some.inj hp'
      subst ep
      exact absurd hd' (hd k' m' h1' h2' h3')
    | none => rfl
/-- it holds -/
def Holds (P : Pri) (xs : List Str) (i j : Nat) : Prop := IsF P xs i j .none
noncomputable def hb (P : Pri) (xs : List Str) (i j : Nat) : Bool := @decide (Holds P xs i j) (Classical.propDecidable _)
theorem hb_iff {P : Pri} {xs : List Str} {i j : Nat} : hb P xs i j = true ↔ Holds P xs i j := by
  unfold hb
  exact @decide_eq_true_iff _ (Classical.propDecidable _)
theorem hb_true {P : Pri} {xs : List Str} {i j : Nat} (h : Holds P xs i j) : hb P xs i j = true := hb_iff.mpr h
theorem hb_false {P : Pri} {xs : List Str} {i j : Nat} (h : ¬ Holds P xs i j) : hb P xs i j = false := by
  cases e : hb P xs i j with
  | false => rfl
  | true => exact absurd (hb_iff.mp e) h
theorem IsF.hb {P : Pri} {xs : List Str} {i j : Nat} {f : Fault} (h : IsF P xs i j f) (n : f ≠ .none) : Fb.hb P xs i j = false := hb_false fun z => n (h.uniq z)
theorem Holds.pr {P : Pri} {xs : List Str} {i j : Nat} (h : Holds P xs i j) : ∃ p, stp P xs i j = some p := by
  cases h with
  | none hp => exact ⟨_, hp⟩
/-- where a place comes again first -/
def IsTw (xs : List Str) (i j : Nat) : Option Nat → Prop
  | some k => i ≤ k ∧ k ≤ j ∧ again xs i k ∧ ∀ l, i ≤ l → l < k → ¬ again xs i l
  | none => ∀ l, i ≤ l → l ≤ j → ¬ again xs i l
def optN : Option Nat → V
  | some k => .int (k : Int)
  | none => .non
def IsDr (P : Pri) (xs : List Str) (i j : Nat) (p : Int) : Option (Nat × Nat) → Prop
  | some (k, m) => i ≤ k ∧ k < m ∧ m ≤ j ∧ dear P xs p k m ∧ (∀ k' m', i ≤ k' → k' < k → k' < m' → m' ≤ j → ¬ dear P xs p k' m') ∧ ∀ m', k < m' → m' < m → ¬ dear P xs p k m'
  | none => ∀ k m, i ≤ k → k < m → m ≤ j → ¬ dear P xs p k m
def pairV (H : Hp) (v : V) : Option (Nat × Nat) → Prop
  | some (k, m) => ∃ t, v = .ref t ∧ H t = some (.tup [.int (k : Int), .int (m : Int)])
  | none => v = .non
/-- a fault's value -/
def FltV (H : Hp) (v : V) : Fault → Prop
  | .none => v = .non
  | .price => ∃ t, v = .ref t ∧ H t = some (.tup [.str (Str.ofString "price")])
  | .twice k => ∃ t, v = .ref t ∧ H t = some (.tup [.str (Str.ofString "twice"), .int (k : Int)])
  | .dearer k m => ∃ t, v = .ref t ∧ H t = some (.tup [.str (Str.ofString "dearer"), .int (k : Int), .int (m : Int)])
theorem FltV.non {H : Hp} {v : V} {f : Fault} (h : FltV H v f) : (v = .non ↔ f = .none) := by
  cases f with
  | none => exact ⟨fun _ => rfl, fun _ => h⟩
  | price => obtain ⟨t, e, _⟩ := h; exact ⟨(fun z => by rw [e] at z; cases z), fun z => by cases z⟩
  | twice k => obtain ⟨t, e, _⟩ := h; exact ⟨(fun z => by rw [e] at z; cases z), fun z => by cases z⟩
  | dearer k m => obtain ⟨t, e, _⟩ := h; exact ⟨(fun z => by rw [e] at z; cases z), fun z => by cases z⟩
/-- a good journey -/
structure GoodJ (xs : List Str) : Prop where
  lo : 2 ≤ xs.length
  hi : xs.length ≤ 40
  pl : ∀ x ∈ xs, isP (.str x) = true
  ne : ∀ i, i + 1 < xs.length → xat xs i ≠ xat xs (i + 1)
theorem dueFrom_good : ∀ {xs : List Str} {p : Option V}, (∀ x ∈ xs, isP (.str x) = true) → (∀ x, xs[0]? = some x → p ≠ some (.str x)) → (∀ i x, xs[i]? = some x → xs[i + 1]? ≠ some x) → dueFrom p (xs.map V.str) = 0
  | [], _, _, _, _ => rfl
  | x :: r, p, h1, h2, h3 => by
    show (if isP (.str x) = true then (if p = some (.str x) then 2 else dueFrom (some (.str x)) (r.map V.str)) else 1) = 0
    rw [if_pos (h1 x List.mem_cons_self), if_neg (h2 x rfl)]
    refine dueFrom_good (fun y hy => h1 y (List.mem_cons_of_mem _ hy)) (fun y hy e => ?_) (fun i y hy e => h3 (i + 1) y (by simpa using hy) (by simpa using e))
    have e2 : x = y := V.str.inj (Option.some.inj e)
    exact h3 0 x rfl (by rw [List.getElem?_cons_succ, hy, e2])
theorem GoodJ.due {xs : List Str} (g : GoodJ xs) : due (xs.map V.str) = 0 := by
  rw [due_in (by rw [List.length_map]; exact g.lo) (by rw [List.length_map]; exact g.hi)]
  refine dueFrom_good g.pl (fun x _ e => by cases e) fun i x h e => ?_
  have h1 := (List.getElem?_eq_some_iff.mp e).1
  exact g.ne i h1 (by rw [xat_of h, xat_of e])
theorem GoodJ.ask {xs : List Str} (g : GoodJ xs) : ∀ v ∈ xs.map V.str, ask v := fun v hv => by
  obtain ⟨x, hx, rfl⟩ := List.mem_map.mp hv
  exact isP_ask (g.pl x hx)
theorem GoodJ.flat {xs : List Str} (g : GoodJ xs) : ∀ v ∈ xs.map V.str, flat v := fun v hv => ask_flat (g.ask v hv)
end Fb

namespace Fb
open PySem PySem.Spec PyProof.Rows L2
/-- the scope of a statement's list comprehension -/
def lcRaw (d : Scope) : Stmt → Scope
  | .Return (some (.ListComp _ _ sc _)) _ => sc
  | .Assign _ (.ListComp _ _ sc _) _ => sc
  | _ => d
def lcSc (d : Scope) (st : Stmt) : Scope := { lcRaw d st with names := (lcRaw d st).names.map fun (n, k) => if (k == .free && d.kind == .function && d.names.lookup n == some .cell) then (n, .cell) else (n, k) }
/-! ### a < b < c < d -/
def tChain3 (r r' r'' : R2) (ta tb tc td : TE) : TE := fun σ H Q => ta σ H fun x H1 => tb σ H1 fun y H2 => r x y H2 fun z H3 => ∃ k, z = .bl k ∧
  (if k = true then tc σ H3 fun w' H4 => r' y w' H4 fun z2 H5 => ∃ k2, z2 = .bl k2 ∧ (if k2 = true then td σ H5 fun u' H6 => r'' w' u' H6 Q else Q (.bl false) H5) else Q (.bl false) H3)
section
variable {X : Cx} {a b c d : Expr} {ta tb tc td : TE} {pos : Pos}
theorem pe_chain3 {op op' op'' : CmpOp} {r r' r'' : R2} (ho : OpR X (compareOp op) r) (ho' : OpR X (compareOp op') r') (ho'' : OpR X (compareOp op'') r'') (ha : PE X a ta) (hb : PE X b tb) (hc : PE X c tc) (hd : PE X d td)
    (hm : lastMarks [op, op', op''] [b, c, d] = false := by with_unfolding_all rfl) : PE X (.Compare a [op, op', op''] [b, c, d] pos) (tChain3 r r' r'' ta tb tc td) := by
  refine ⟨fun pins s σ H Q I h => ?_⟩
  refine Compare_chain (thn (ha.run pins s σ H _ I h) fun v s1 ⟨x, H1, I1, r1, q1⟩ => chain_link (thn (hb.run pins s1 σ H1 _ I1 q1) fun u s2 ⟨y, H2, I2, r2, q2⟩ =>
    thn (ho pins s2 σ H2 x y v u _ I2 r1 r2 q2) fun g s3 ⟨z, H3, I3, r3, k, e, q3⟩ => ?_)) hm
  subst e
  cases r3
  refine wpAny_truthy_bool ?_
  cases k with
  | false => exact ite_ff ⟨.bl false, H3, I3, rfl, q3⟩
  | true =>
    refine ite_tt (chain_link (thn (hc.run pins s3 σ H3 _ I3 q3) fun w' s4 ⟨z', H4, I4, r4, q4⟩ => thn (ho' pins s4 σ H4 y z' u w' _ I4 r2 r4 q4) fun g' s5 ⟨z2, H5, I5, r5, k2, e2, q5⟩ => ?_))
    subst e2
    cases r5
    refine wpAny_truthy_bool ?_
    cases k2 with
    | false => exact ite_ff ⟨.bl false, H5, I5, rfl, q5⟩
    | true => exact ite_tt (chain_last (thn (hd.run pins s5 σ H5 _ I5 q5) fun w'' s6 ⟨z'', H6, I6, r6, q6⟩ => ho'' pins s6 σ H6 z' z'' w' w'' Q I6 r4 r6 q6))
theorem pt_chain3 {op op' op'' : CmpOp} {r r' r'' : R2} (ho : OpR X (compareOp op) r) (ho' : OpR X (compareOp op') r') (ho'' : OpR X (compareOp op'') r'') (ha : PE X a ta) (hb : PE X b tb) (hc : PE X c tc) (hd : PE X d td)
    (hm : lastMarks [op, op', op''] [b, c, d] = false := by with_unfolding_all rfl) : PT X (.Compare a [op, op', op''] [b, c, d] pos) (tTest (tChain3 r r' r'' ta tb tc td)) := by
  refine ⟨fun pins s σ H Q I h => ?_⟩
  refine isTrue_chain (thn (ha.run pins s σ H _ I h) fun v s1 ⟨x, H1, I1, r1, q1⟩ => test_link (thn (hb.run pins s1 σ H1 _ I1 q1) fun u s2 ⟨y, H2, I2, r2, q2⟩ =>
    thn (ho pins s2 σ H2 x y v u _ I2 r1 r2 q2) fun g s3 ⟨z, H3, I3, r3, k, e, q3⟩ => ?_)) hm
  subst e
  cases r3
  refine wpAny_truthy_bool ?_
  cases k with
  | false =>
    obtain ⟨k', e', q'⟩ := q3
    cases e'
    exact ite_ff ⟨H3, I3, q'⟩
  | true =>
    refine ite_tt (test_link (thn (hc.run pins s3 σ H3 _ I3 q3) fun w' s4 ⟨z', H4, I4, r4, q4⟩ => thn (ho' pins s4 σ H4 y z' u w' _ I4 r2 r4 q4) fun g' s5 ⟨z2, H5, I5, r5, k2, e2, q5⟩ => ?_))
    subst e2
    cases r5
    refine wpAny_truthy_bool ?_
    cases k2 with
    | false =>
      obtain ⟨k', e', q'⟩ := q5
      cases e'
      exact ite_ff ⟨H5, I5, q'⟩
    | true =>
      refine ite_tt (test_last (thn (hd.run pins s5 σ H5 _ I5 q5) fun w'' s6 ⟨z'', H6, I6, r6, q6⟩ => thn (ho'' pins s6 σ H6 z' z'' w' w'' _ I6 r4 r6 q6) fun d' s7 ⟨z3, H7, I7, r7, k3, e3, q7⟩ => ?_))
      subst e3
      cases r7
      exact wpAny_truthy_bool ⟨H7, I7, q7⟩
end
/-! ### [f(x) for x in range(..) if p(x)] -/
section
variable {tt : TT} {te : TE} {vs : List Nat} {σ : L2.St} {H1 : Hp} {D : Addr} {Qd : Hp → Prop}
theorem lc_pickR {lo : Int} {n j : Nat} (pf : Nat → Bool) (f : Nat → V) (hD : H1 D = none) (hn : n ≤ 90000) (hw : ∀ v, wipe ((wipe σ vs).set j (some v)) vs = wipe σ vs)
    (ht : ∀ i H, i < n → Same H1 H → ∀ Q : Bool → Hp → Prop, (∀ H', Same H H' → Q (pf i) H') → tt ((wipe σ vs).set j (some (.int (lo + i)))) H Q)
    (he : ∀ i H, i < n → Same H1 H → ∀ Q : VK, (∀ H', Same H H' → Q (f i) H') → te ((wipe σ vs).set j (some (.int (lo + i)))) H Q)
    (hd : ∀ H, Same H1 H → H D = some (.lst (pick pf f n)) → Qd H) :
    ∃ W : Nat → Nat → Hp → Prop, (∃ m, W 0 m (upd H1 D (.lst []))) ∧ ∀ i m H, W i m H →
      ((Itr lo n).stop i H ∧ Qd H) ∨ ((Itr lo n).go i H ∧ ∃ Nx : Hp → Prop, (∀ H', Nx H' → ∃ m', m' < m ∧ W (i + 1) m' H') ∧ ∀ x H', (Itr lo n).yld i H x H' → (gName j) x (wipe σ vs) H' fun σ2 H2 => wipe σ2 vs = wipe σ vs ∧ tt σ2 H2 fun b H3 =>
        if b = true then te σ2 H3 fun y H4 => ∃ acc, H4 D = some (.lst acc) ∧ acc.length < sizeLine ∧ Nx (upd H4 D (.lst (acc ++ [y]))) else Nx H3) := by
  refine ⟨fun i m H => m = n - i ∧ i ≤ n ∧ Same H1 H ∧ H D = some (.lst (pick pf f i)), ⟨n, by simp, Nat.zero_le _, same_new hD, upd_same⟩, ?_⟩
  rintro i m H ⟨rfl, hi, s1, hl⟩
  by_cases hlt : i < n
  · refine .inr ⟨hlt, fun H' => Same H1 H' ∧ H' D = some (.lst (pick pf f (i + 1))), fun H' p' => ⟨n - (i + 1), by omega, rfl, hlt, p'⟩, fun y H' yl => ?_⟩
    obtain ⟨rfl, rfl⟩ := yl
    refine ⟨hw _, ht i _ hlt s1 _ fun H2 s2 => ?_⟩
    have e := pick_succ pf f i
    have hl2 := s2 _ _ hl
    cases hp : pf i with
    | true =>
      refine iteT (he i H2 hlt (Same.trans s1 s2) _ fun H3 s3 => ⟨_, s3 _ _ hl2, szlt ?_, same_mut (Same.trans (Same.trans s1 s2) s3) hD, ?_⟩)
      · have := pick_le pf f i; omega
      · rw [upd_same, e, hp, if_pos rfl]
    | false =>
      refine iteF ⟨Same.trans s1 s2, ?_⟩
      rw [e, hp, if_neg Bool.false_ne_true]
      exact hl2
  · have e : i = n := by omega
    subst e
    exact .inl ⟨Nat.le_refl _, hd H s1 hl⟩
end
theorem refs_of : ∀ {ys : List V} {R : Nat → Addr → Prop}, (∀ (i : Nat) v, ys[i]? = some v → ∃ t, v = .ref t ∧ R i t) → ∃ ts : List Addr, ys = ts.map V.ref ∧ ∀ (i : Nat) t, ts[i]? = some t → R i t
  | [], _, _ => ⟨[], rfl, fun i t h => by simp at h⟩
  | y :: r, R, h => by
    obtain ⟨t, e, h0⟩ := h 0 y rfl
    obtain ⟨ts, e2, h2⟩ := refs_of (ys := r) (R := fun i t => R (i + 1) t) fun i v hv => h (i + 1) v (by simpa using hv)
    refine ⟨t :: ts, by rw [e, e2]; rfl, fun i u hu => ?_⟩
    cases i with
    | zero =>
      have e3 : t = u := by simpa using hu
      rw [← e3]; exact h0
    | succ i => exact h2 i u (by simpa using hu)
/-! ### where the stretches from a place end that hold -/
noncomputable def heldN (P : Pri) (xs : List Str) (i : Nat) : List Nat := ((List.range (xs.length - (i + 1))).filter fun k => hb P xs i (i + 1 + k)).map fun k => i + 1 + k
noncomputable def heldV (P : Pri) (xs : List Str) (i : Nat) : List V := (heldN P xs i).map fun j : Nat => V.int (j : Int)
theorem heldV_pick {P : Pri} {xs : List Str} {i : Nat} : pick (fun k => hb P xs i (i + 1 + k)) (fun k => V.int ((i + 1 + k : Nat) : Int)) (xs.length - (i + 1)) = heldV P xs i := by
  unfold heldV heldN pick
  rw [List.map_map]
  rfl
theorem mem_heldN {P : Pri} {xs : List Str} {i j : Nat} : j ∈ heldN P xs i ↔ i < j ∧ j < xs.length ∧ Holds P xs i j := by
  unfold heldN
  rw [List.mem_map]
  constructor
  · rintro ⟨k, hk, rfl⟩
    obtain ⟨h1, h2⟩ := List.mem_filter.mp hk
    exact ⟨by omega, by have := List.mem_range.mp h1; omega, hb_iff.mp h2⟩
  · rintro ⟨h1, h2, h3⟩
    refine ⟨j - (i + 1), List.mem_filter.mpr ⟨List.mem_range.mpr (by omega), ?_⟩, by omega⟩
    rw [show i + 1 + (j - (i + 1)) = j by omega]
    exact hb_true h3
theorem heldN_le {P : Pri} {xs : List Str} {i : Nat} : (heldN P xs i).length ≤ xs.length := by
  unfold heldN
  rw [List.length_map]
  refine Nat.le_trans (List.length_filter_le _ _) ?_
  rw [List.length_range]
  omega
end Fb

namespace Fb
open PySem PySem.Spec PyProof.Rows L2
/-! ### x.split(' ') -/
def rSplitN : V → List V → Hp → VK → Prop := fun x xs H Q => ∃ a b, x = .str a ∧ xs = [.str b] ∧ (b.length == 0) = false ∧ a.length ≤ 100000 ∧ ∀ p H', H p = none → Same H H' → H' p = some (.lst ((Txt.split a b).map V.str)) → Q (.ref p) H'
theorem mt_splitN {X : Cx} : MtR X "str.split" rSplitN := fun pins s σ H x xs v us Q I rx rs ⟨a, b, e1, e2, e3, hl, q⟩ => mt_split pins s σ H x xs v us Q I rx rs ⟨a, b, e1, e2, e3, Nat.le_trans (Nat.add_le_add_right hl 2) (by decide), fun p hp => q p _ hp (same_new hp) upd_same⟩
theorem pe_splitN {X : Cx} {o e : Expr} {to te : TE} {apos pos : Pos} (ho : PE X o to) (he : PE X e te) (hs : starEach [e] X.env = [(false, eval e X.env)] := by rfl) (hbase : attributeBase o "split" X.env (eval o X.env) = eval o X.env := by rfl) (hline : (apos.endLine == pos.line) = true := by rfl) :
    PE X (.Call (.Attribute o "split" apos) [e] [] pos) (tM1 rSplitN to te) := pe_m1 F.slot_str_split F.type_str_split mt_splitN ho he hs hbase hline
theorem inV_str {k : Str} : ∀ {l : List Str}, inV (.str k) (l.map V.str) = decide (k ∈ l)
  | [] => by simp [inV]
  | x :: l => by
    have ih := inV_str (k := k) (l := l)
    unfold inV at ih ⊢
    rw [List.map_cons, List.any_cons, ih, Bool.eq_iff_iff, Bool.or_eq_true, decide_eq_true_iff, decide_eq_true_iff, List.mem_cons]
    refine or_congr ?_ Iff.rfl
    show (eqV (.str x) (.str k)) = true ↔ _
    simp [eqV]
    try exact ⟨fun h => h.symm, fun h => h.symm⟩
theorem flat_strs (l : List Str) : (l.map V.str).all flatV = true := by
  rw [List.all_eq_true]
  intro v hv
  obtain ⟨x, _, rfl⟩ := List.mem_map.mp hv
  rfl
/-! ### lines -/
abbrev blankS : Str := Str.ofString " "
theorem blank_tl : TL.tl blankS = [32] := by decide +kernel
def wds (z : Str) : List Str := Txt.split z blankS
def digit (c : Nat) : Bool := decide (48 ≤ c) && decide (c ≤ 57)
def isFig (z : Str) : Bool := decide (1 ≤ z.length) && decide (z.length ≤ 13) && (if z.cps.toList.head? = some 48 then decide (z.cps.toList = [48]) else z.cps.toList.all digit)
def empS : Str := Str.ofString ""
theorem empS_iff {z : Str} : z = empS ↔ z.cps.toList = [] := by
  have e : empS.cps.toList = [] := by decide +kernel
  exact ⟨fun h => by rw [h]; exact e, fun h => str_ext (by rw [h, e])⟩
def parseL (z : Str) : Option Row := match wds z with
  | [a, b, c] => if a = empS ∨ b = empS ∨ c = empS then none else if isFig c = true then some (a, b, ((NumText.digitsVal c.cps.toList : Nat) : Int)) else none
  | _ => none
def numS (n : Int) : Str := Str.ofString (toString n)
def lineOf (r : Row) : Str := r.1 ++ blankS ++ r.2.1 ++ blankS ++ numS r.2.2
theorem wds_three {a b c : Str} (ha : 32 ∉ a.cps.toList) (hb : 32 ∉ b.cps.toList) (hc : 32 ∉ c.cps.toList) : wds (a ++ blankS ++ b ++ blankS ++ c) = [a, b, c] := by
  have e : a ++ blankS ++ b ++ blankS ++ c = Txt.join blankS [a, b, c] := by
    refine TL.ext_tl ?_
    rw [TL.join_eq, TL.tl_join, TL.tl_append, TL.tl_append, TL.tl_append, TL.tl_append, blank_tl]
    show _ = TL.tl a ++ ([32] ++ (TL.tl b ++ ([32] ++ TL.tl c)))
    simp only [List.append_assoc]
  rw [e]
  unfold wds
  refine TL.split_join (s := 32) (S := []) blank_tl (by decide +kernel) (by simp) fun p hp => ?_
  simp only [List.mem_cons, List.not_mem_nil, or_false] at hp
  rcases hp with rfl | rfl | rfl
  · exact ha
  · exact hb
  · exact hc
theorem isP_noblank {z : Str} (h : isP (.str z) = true) : 32 ∉ z.cps.toList := fun hm => by
  have h1 : (decide (1 ≤ z.length) && decide (z.length ≤ 12) && z.cps.toList.all letter) = true := h
  simp only [Bool.and_eq_true] at h1
  have := List.all_eq_true.mp h1.2 32 hm
  revert this; decide
theorem isP_ne {z : Str} (h : isP (.str z) = true) : z ≠ empS := fun e => by
  rw [e] at h; revert h; decide +kernel
theorem isP_len {z : Str} (h : isP (.str z) = true) : 1 ≤ z.length ∧ z.length ≤ 12 := by
  have h1 : (decide (1 ≤ z.length) && decide (z.length ≤ 12) && z.cps.toList.all letter) = true := h
  simp only [Bool.and_eq_true, decide_eq_true_eq] at h1
  exact h1.1
theorem num_head : ∀ {m : Nat}, 0 < m → (TL.numL m).head? ≠ some 48 := by
  intro m
  induction m using Nat.strongRecOn with
  | _ m ih =>
    intro h
    by_cases c : m < 10
    · rw [TL.numL_lt c]
      simp
      omega
    · rw [TL.numL_step (by omega)]
      have i := ih (m / 10) (by omega) (by omega)
      cases e : TL.numL (m / 10) with
      | nil => exact absurd e (TL.numL_ne _)
      | cons x r =>
        rw [e] at i
        simpa using i
theorem numS_nat (m : Nat) : (numS (m : Int)).cps.toList = TL.numL m := TL.tl_num m
theorem fig_num {n : Int} (h : isC (.int n) = true) : isFig (numS n) = true ∧ ((NumText.digitsVal (numS n).cps.toList : Nat) : Int) = n ∧ (numS n).length ≤ 13 ∧ numS n ≠ empS ∧ 32 ∉ (numS n).cps.toList := by
  have h1 : (decide (0 ≤ n) && decide (n ≤ 1000000000000)) = true := h
  simp only [Bool.and_eq_true, decide_eq_true_eq] at h1
  obtain ⟨m, rfl⟩ : ∃ m : Nat, n = (m : Int) := ⟨n.toNat, by omega⟩
  have hl : (TL.numL m).length ≤ 13 := TL.numL_len (by decide) (by omega)
  have hn := TL.numL_ne m
  have hlen : (numS (m : Int)).length = (TL.numL m).length := by rw [len_tl, numS_nat]
  refine ⟨?_, by rw [numS_nat, TL.numL_val], by rw [hlen]; exact hl, fun e => ?_, by rw [numS_nat]; exact TL.numL_free (by omega)⟩
  · unfold isFig
    have p : 1 ≤ (TL.numL m).length := by
      cases e : TL.numL m with
      | nil => exact absurd e hn
      | cons _ _ => simp
    rw [hlen, decide_eq_true p, decide_eq_true hl, numS_nat]
    by_cases c : m = 0
    · subst c; decide +kernel
    · rw [if_neg (num_head (by omega))]
      show (true && true && (TL.numL m).all digit) = true
      rw [Bool.and_self, Bool.true_and]
      refine List.all_eq_true.mpr fun x hx => ?_
      have := TL.numL_digits m x hx
      unfold digit
      rw [decide_eq_true this.1, decide_eq_true this.2]; rfl
  · have := empS_iff.mp e
    rw [numS_nat] at this
    exact hn this
theorem parse_line {r : Row} (g : GoodRow r) : parseL (lineOf r) = some r := by
  obtain ⟨f1, f2, f3, f4, f5⟩ := fig_num g.c
  unfold parseL lineOf
  rw [wds_three (isP_noblank g.p1) (isP_noblank g.p2) f5]
  dsimp only
  rw [if_neg (fun h => by
    rcases h with h | h | h
    · exact isP_ne g.p1 h
    · exact isP_ne g.p2 h
    · exact f4 h), if_pos f1, f2]
theorem line_len {r : Row} (g : GoodRow r) : (lineOf r).length ≤ 39 := by
  obtain ⟨_, _, f3, _, _⟩ := fig_num g.c
  have h1 := (isP_len g.p1).2
  have h2 := (isP_len g.p2).2
  have b : blankS.length = 1 := by decide +kernel
  unfold lineOf
  rw [len_app, len_app, len_app, len_app, b]
  omega
theorem log_price {n : Int} (h : isC (.int n) = true) : n.natAbs.log2 < 1920 := by
  have h1 : (decide (0 ≤ n) && decide (n ≤ 1000000000000)) = true := h
  simp only [Bool.and_eq_true, decide_eq_true_eq] at h1
  have h2 : n.natAbs < 2 ^ 40 := by
    have : (2 : Nat) ^ 40 = 1099511627776 := by decide
    omega
  by_cases z : n.natAbs = 0
  · rw [z]; decide
  · exact Nat.lt_trans ((Nat.log2_lt z).mpr h2) (by decide)
theorem btw_digit (c : Nat) : (!decide (([c] : List Nat) < (Str.ofString "0").cps.toList) && !decide ((Str.ofString "9").cps.toList < ([c] : List Nat))) = digit c := by
  have e1 : (Str.ofString "0").cps.toList = [48] := by decide +kernel
  have e2 : (Str.ofString "9").cps.toList = [57] := by decide +kernel
  rw [e1, e2]
  have h1 : (([c] : List Nat) < [48]) ↔ c < 48 := by
    constructor
    · intro h
      cases h with
      | rel h => exact h
      | cons h => cases h
    · intro h; exact List.Lex.rel h
  have h2 : (([57] : List Nat) < [c]) ↔ 57 < c := by
    constructor
    · intro h
      cases h with
      | rel h => exact h
      | cons h => cases h
    · intro h; exact List.Lex.rel h
  unfold digit
  have g1 : decide (([c] : List Nat) < [48]) = decide (c < 48) := decide_eq_decide.mpr h1
  have g2 : decide (([57] : List Nat) < [c]) = decide (57 < c) := decide_eq_decide.mpr h2
  rw [g1, g2]
  by_cases a : c < 48 <;> by_cases b : 57 < c <;> simp [a, b] <;> omega
theorem fig_digits {z : Str} (h : isFig z = true) : NumText.AllDigits z.cps.toList ∧ z.cps.toList ≠ [] ∧ z.length ≤ 13 := by
  unfold isFig at h
  simp only [Bool.and_eq_true, decide_eq_true_eq] at h
  obtain ⟨⟨h1, h2⟩, h3⟩ := h
  have hn : z.cps.toList ≠ [] := fun e => by rw [len_tl, e] at h1; simp at h1
  refine ⟨fun c hc => ?_, hn, h2⟩
  by_cases q : z.cps.toList.head? = some 48
  · rw [if_pos q] at h3
    have e : z.cps.toList = [48] := of_decide_eq_true h3
    rw [e] at hc
    rw [List.mem_singleton.mp hc]
    omega
  · rw [if_neg q] at h3
    have := List.all_eq_true.mp h3 c hc
    unfold digit at this
    simp only [Bool.and_eq_true, decide_eq_true_eq] at this
    exact this
theorem fig_int {z : Str} (h : isFig z = true) : intText? z = some ((NumText.digitsVal z.cps.toList : Nat) : Int) ∧ z.length ≤ 640 := by
  obtain ⟨h1, h2, h3⟩ := fig_digits h
  exact ⟨intText_digits h1 h2 (by omega), by omega⟩
theorem split_parts_len {z : Str} : ∀ p ∈ wds z, p.length ≤ z.length ∧ ∀ c ∈ p.cps.toList, c ∈ z.cps.toList := by
  have h : ∀ (S : List Nat) (l : List Nat) (k : Nat) (acc : List Nat) (p : List Nat), p ∈ TL.spl S k acc l → ∃ a b, p = a ++ b ∧ (a = acc ∨ a = []) ∧ b.Sublist l := by
    intro S l
    induction l with
    | nil =>
      intro k acc p hp
      rw [TL.spl_nil] at hp
      rw [List.mem_singleton.mp hp]
      exact ⟨acc, [], by simp, .inl rfl, List.Sublist.refl _⟩
    | cons c r ih =>
      intro k acc p hp
      cases k with
      | succ k =>
        have e : TL.spl S (k + 1) acc (c :: r) = TL.spl S k acc r := rfl
        rw [e] at hp
        obtain ⟨a, b, e1, e2, e3⟩ := ih k acc p hp
        exact ⟨a, b, e1, e2, e3.cons c⟩
      | zero =>
        cases q : TL.pre S (c :: r) with
        | true =>
          rw [TL.spl_hit q] at hp
          rcases List.mem_cons.mp hp with e | e
          · rw [e]; exact ⟨acc, [], by simp, .inl rfl, List.nil_sublist _⟩
          · obtain ⟨a, b, e1, e2, e3⟩ := ih _ [] p e
            exact ⟨a, b, e1, .inr (by rcases e2 with e | e <;> exact e), e3.cons c⟩
        | false =>
          rw [TL.spl_miss q] at hp
          obtain ⟨a, b, e1, e2, e3⟩ := ih 0 (acc ++ [c]) p hp
          rcases e2 with e2 | e2
          · exact ⟨acc, c :: b, by rw [e1, e2]; simp, .inl rfl, e3.cons₂ c⟩
          · exact ⟨[], b, by rw [e1, e2], .inr rfl, e3.cons c⟩
  intro p hp
  have e := TL.split_spl z blankS (by rw [blank_tl]; simp) (TL.kind_ok (by decide +kernel))
  have hm : TL.tl p ∈ (Txt.split z blankS).map TL.tl := List.mem_map.mpr ⟨p, hp, rfl⟩
  rw [e] at hm
  obtain ⟨a, b, e1, e2, e3⟩ := h _ _ _ _ _ hm
  have e4 : p.cps.toList = b := by
    have : TL.tl p = a ++ b := e1
    rcases e2 with e2 | e2 <;> rw [e2] at this <;> simpa using this
  exact ⟨by rw [len_tl, len_tl, e4]; exact e3.length_le, fun c hc => by rw [e4] at hc; exact e3.subset hc⟩
theorem wds_len {z : Str} : (wds z).length ≤ z.length + 2 := split_le z blankS
end Fb

namespace Fb
open PySem PySem.Spec PyProof.Rows L2
local macro_rules | `(tactic| walk_at "s") => `(tactic| repeat (first | refine ⟨_, rfl, ?_⟩ | refine ⟨_, _, rfl, rfl, ?_⟩ | refine ⟨_, _, rfl, Or.inl (by assumption), ?_⟩ | refine ⟨rfl, ?_⟩ | refine ⟨(by decide : (0 : Int) < _), ?_⟩ | refine ⟨⟨by decide, by decide⟩, ?_⟩ | refine ⟨_, _, _, rfl, (by assumption), (by first | decide | omega), ?_⟩))
/-! ### lines: the program's defs -/
def spFig (P : Addr) : Sp := fun vs H Q _ => ∃ z : Str, vs = [.str z] ∧ z.length ≤ 100000 ∧ H P = some (TabO P) ∧ Q (.bl (isFig z)) H
def spRowOf (a : Ads) (P : Addr) : Sp := fun vs H Q E => ∃ z : Str, vs = [.str z] ∧ z.length ≤ 90000 ∧ H P = some (TabO P) ∧ (∀ r, parseL z = some r → ∀ t H', H t = none → Same H H' → IsRow H' t r → Q (.ref t) H') ∧ (parseL z = none → ∀ H', Same H H' → E (.ref a.BadLine) none H')
theorem zero_iff {z : Str} : (V.str z = V.str (Str.ofString "0")) ↔ z.cps.toList = [48] := by
  have e : (Str.ofString "0").cps.toList = [48] := by decide +kernel
  exact ⟨fun h => by rw [V.str.inj h]; exact e, fun h => congrArg V.str (str_ext (by rw [h, e]))⟩
abbrev s_are_figures : Stmt := topS 18
abbrev N_are_figures : List Str := ["word"]
theorem sc_are_figures : FnScope N_are_figures ["word"] (defScope s_are_figures) := ⟨rfl, rfl, rfl, by decide +kernel, rfl, by decide +kernel, by decide +kernel⟩
abbrev s_row_of : Stmt := topS 19
abbrev N_row_of : List Str := ["line", "words", "here", "there", "figures"]
theorem sc_row_of : FnScope N_row_of ["line"] (defScope s_row_of) := ⟨rfl, rfl, rfl, by decide +kernel, rfl, by decide +kernel, by decide +kernel⟩
section
variable {Pg : Program} {w : World} {K : PySem.W.Frag} {mg : Str → Option Value} {base : Heap} {a : Ads}
theorem ok_are_figures {f c P : Addr} {fd : FuncData} (F : FunC K "are_figures" "are_figures" s_are_figures f fd c) (T : Txt K mg a) (TB : GxR.TabB base mg c P) : FnOk Pg w K mg base (L2N.CX Pg w) 2 f fd ["word"] (spFig P) := by
  refine F.okN sc_are_figures (fun vs H Q E h => ?_) (fun A outer s H vs Q E hr h => ?_)
  · obtain ⟨_, rfl, _⟩ := h
    rfl
  · obtain ⟨z, rfl, hz, hP, q⟩ := h
    refine ⟨_, (pss_cons (ps_if (pt_not (pt_chain op_le op_le pe_int (pe_callB call_len_str (by rfl) T.n_len (by decide +kernel) (pa_cons (pv 0) pa_nil)) (pe_gint T.c_MOST_FIGURES rfl))) (pss_one (ps_ret pe_bl)) pss_nil)
      (pss_cons (ps_if (pt_cmpR op_eq (pe_ix ix_str (pv 0) pe_int (fun _ _ => rfl)) pe_str (nomark _)) (pss_one (ps_ret (pe_cmpR op_eq (pv 0) pe_str (nomark _)))) pss_nil)
      (pss_one (ps_ret (pe_allP (i := 0) (GxR.pe_allS hr rfl T.n_all (by decide +kernel) TB rfl ⟨rfl, rfl, by decide +kernel, rfl, rfl, nofree_ex (by decide +kernel)⟩ (pv 0) (elt_btw rfl rfl) (fun _ => rfl))))))), ?_⟩
    walk_at "s"
    refine ⟨szl hz, ?_⟩
    walk_at "s"
    refine ifD (fun c1 => ?_) (fun c1 => ?_)
    · walk_at "s"
      refine ifND (fun c2 => ?_) (fun c2 => ?_)
      · have e : isFig z = false := by unfold isFig; rw [decide_eq_false (show ¬ z.length ≤ 13 by omega)]; simp
        rw [e] at q
        exact q
      · have hl : 0 < z.cps.toList.length := by rw [← len_tl]; omega
        have e0 : atI z.cps.toList 0 = some z.cps.toList[0] := atI_of (by omega) (List.getElem?_eq_getElem hl)
        have eh : z.cps.toList.head? = some z.cps.toList[0] := by rw [List.head?_eq_getElem?, List.getElem?_eq_getElem hl]
        walk_at "s"
        refine ⟨_, _, _, rfl, rfl, szl hz, e0, ?_⟩
        walk_at "s"
        refine ifD (fun c3 => ?_) (fun c3 => ?_)
        · walk_at "s"
          have e48 : z.cps.toList[0] = 48 := by
            have := zero_iff.mp c3
            simpa using this
          have e : isFig z = decide (V.str z = V.str (Str.ofString "0")) := by
            unfold isFig
            rw [decide_eq_true (show 1 ≤ z.length by omega), decide_eq_true (show z.length ≤ 13 by omega), eh, e48, if_pos rfl, Bool.and_self, Bool.true_and]
            exact decide_eq_decide.mpr zero_iff.symm
          rw [e] at q
          exact q
        · have e48 : ¬ z.cps.toList[0] = 48 := fun z1 => c3 (zero_iff.mpr (by rw [z1]))
          have e : isFig z = z.cps.toList.all digit := by
            unfold isFig
            rw [decide_eq_true (show 1 ≤ z.length by omega), decide_eq_true (show z.length ≤ 13 by omega), eh, if_neg (fun h => e48 (Option.some.inj h)), Bool.and_self, Bool.true_and]
          rw [e] at q
          refine ⟨z, rfl, hP, ?_⟩
          rw [show (fun c => !decide (([c] : List Nat) < (Str.ofString "0").cps.toList) && !decide ((Str.ofString "9").cps.toList < ([c] : List Nat))) = digit from funext btw_digit]
          exact q
    · walk_at "s"
      refine ifT1 ?_
      have e : isFig z = false := by unfold isFig; rw [decide_eq_false (show ¬ 1 ≤ z.length by omega)]; rfl
      rw [e] at q
      exact q
theorem ok_row_of {f P : Addr} {fd : FuncData} (F : Fun K "row_of" "row_of" s_row_of f fd) (T : Txt K mg a) (D_are_figures : Dn Pg w K mg base 2 "are_figures" ["word"] (spFig P)) : FnOk Pg w K mg base (L2N.CX Pg w) 3 f fd ["line"] (spRowOf a P) := by
  refine F.okN sc_row_of (fun vs H Q E h => ?_) (fun cdv A outer s H vs Q E hr h => ?_)
  · obtain ⟨_, rfl, _⟩ := h
    rfl
  · obtain ⟨z, rfl, hz, hP, q, qE⟩ := h
    refine ⟨_, (pss_cons (ps_set (i := 1) sc_row_of.nd rfl (by first | exact Or.inl rfl | exact Or.inr rfl) (pe_splitN (pv 0) pe_str))
      (pss_cons (ps_if (PW.pt (pw_or (pt_cmpR op_ne (pe_callB call_len_seq (by rfl) T.n_len (by decide +kernel) (pa_cons (pv 1) pa_nil)) pe_int (nomark _)) (pw_or1 (pt_cmpR op_in_seq pe_str (pv 1) rfl)))) (pss_one (L2N.ps_raise rfl (L2N.takes_of rfl rfl rfl rfl) (L2N.pmk_own PySem.F.excBase_ValueError T.x_BadLine.x T.x_BadLine.g T.x_BadLine.k (raises_own T.x_BadLine.b T.x_BadLine.t) rfl))) pss_nil)
      (pss_cons (ps_asg (pv 1) (pg_lst rfl (pgs_cons (pg_name (i := 2) sc_row_of.nd rfl (by first | exact Or.inl rfl | exact Or.inr rfl)) (pgs_cons (pg_name (i := 3) sc_row_of.nd rfl (by first | exact Or.inl rfl | exact Or.inr rfl)) (pgs_cons (pg_name (i := 4) sc_row_of.nd rfl (by first | exact Or.inl rfl | exact Or.inr rfl)) pgs_nil)))))
      (pss_cons (ps_if (pt_not (pt_val (pe_fnS D_are_figures (hr.mono (by decide)) passC (pa_cons (pv 4) pa_nil)))) (pss_one (L2N.ps_raise rfl (L2N.takes_of rfl rfl rfl rfl) (pmk_ownN1 PySem.F.excBase_ValueError T.x_BadLine.x T.x_BadLine.g T.x_BadLine.k (raises_own T.x_BadLine.b T.x_BadLine.t) rfl (pe_joined (PJ.cons pe_str (PJ.cons (pe_fmt (pe_gint T.c_MOST_FIGURES rfl)) (PJ.cons pe_str PJ.nil))))))) pss_nil)
      (pss_one (ps_ret (pe_tupN (pa_cons (pv 2) (pa_cons (pv 3) (pa_cons (pe_callTy call_int_str (by rfl) T.n_int (by decide +kernel) (pa_cons (pv 4) pa_nil)) pa_nil)))))))))), ?_⟩
    walk_at "s"
    refine ⟨⟨_, rfl⟩, _, _, rfl, rfl, (by decide +kernel), by omega, fun p H1 hp s1 h1 => ?_⟩
    have h1 : H1 p = some (.lst ((wds z).map V.str)) := h1
    have hq1 : SqL K H1 p ((wds z).map V.str) := SqL.of h1
    have bad : parseL z = none → ∀ H', Same H H' → E (.ref a.BadLine) none H' := qE
    have hw : ∀ x ∈ wds z, x.length ≤ z.length := fun x hx => (split_parts_len x hx).1
    walk_at "s"
    rw [List.length_map]
    refine ifND (fun c1 => ?_) (fun c1 => ?_)
    · walk_at "s"
      refine bad ?_ _ s1
      unfold parseL
      split
      · next a b c e => rw [e] at c1; exact absurd rfl c1
      · rfl
    · obtain ⟨w1, w2, w3, ew⟩ : ∃ w1 w2 w3, wds z = [w1, w2, w3] := by
        have hl : (wds z).length = 3 := by have := V.int.inj c1; omega
        match wds z, hl with
        | [w1, w2, w3], _ => exact ⟨w1, w2, w3, rfl⟩
      rw [ew] at h1 hq1 hw
      have l3 := hw w3 (by simp)
      have ep : parseL z = if w1 = empS ∨ w2 = empS ∨ w3 = empS then none else if isFig w3 = true then some (w1, w2, ((NumText.digitsVal w3.cps.toList : Nat) : Int)) else none := by
        unfold parseL
        rw [ew]
      walk_at "s"
      rw [show inV (.str (Str.ofString "")) (List.map V.str [w1, w2, w3]) = decide (empS ∈ [w1, w2, w3]) from inV_str (l := [w1, w2, w3])]
      refine ifD (fun c2 => ?_) (fun c2 => ?_)
      · walk_at "s"
        refine bad ?_ _ s1
        rw [ep, if_pos]
        simp only [List.mem_cons, List.not_mem_nil, or_false] at c2
        rcases c2 with e | e | e
        · exact .inl e.symm
        · exact .inr (.inl e.symm)
        · exact .inr (.inr e.symm)
      · have c2' : ¬ (w1 = empS ∨ w2 = empS ∨ w3 = empS) := fun h => c2 (by
          simp only [List.mem_cons, List.not_mem_nil, or_false]
          rcases h with e | e | e
          · exact .inl e.symm
          · exact .inr (.inl e.symm)
          · exact .inr (.inr e.symm))
        rw [if_neg c2'] at ep
        walk_at "s"
        refine ⟨_, _, rfl, hq1, rfl, _, _, rfl, _, _, rfl, _, _, rfl, rfl, ?_⟩
        walk_at "s"
        refine ⟨by omega, s1 _ _ hP, ?_⟩
        walk_at "s"
        refine ifNB (fun c3 => ?_) (fun c3 => ?_)
        · rw [c3, if_neg Bool.false_ne_true] at ep
          walk_at "s"
          refine ⟨by decide +kernel, ?_⟩
          walk_at "s"
          refine .inr ⟨13, rfl, by decide, ?_⟩
          walk_at "s"
          refine ⟨by decide +kernel, ?_⟩
          walk_at "s"
          exact ⟨by decide +kernel, bad ep _ s1⟩
        · rw [if_pos c3] at ep
          obtain ⟨fi, fl⟩ := fig_int c3
          walk_at "s"
          refine ⟨_, _, rfl, fi, fl, ?_⟩
          walk_at "s"
          refine ⟨(by simp), fun t H2 ht s2 h2 => ?_⟩
          exact q _ ep t H2 (s1.free ht) (Same.trans s1 s2) h2
end
end Fb

namespace Fb
open PySem PySem.Spec PyProof.Rows L2
/-! ### the ways of an expression joined -/
def tMid (t : TE) : TE := fun σ H Q => ∃ P : V → Hp → Prop, t σ H P ∧ ∀ v H', P v H' → Q v H'
theorem pe_mid {X : Cx} {e : Expr} {t : TE} (h : PE X e t) : PE X e (tMid t) := ⟨fun pins s σ H Q I ⟨P, q, m⟩ => thn (h.run pins s σ H P I q) fun u s1 ⟨v, H1, I1, r, q1⟩ => ⟨v, H1, I1, r, m _ _ q1⟩⟩
/-! ### try, its reading shut -/
def tTryM (K : PySem.W.Frag) (Wout : WX) (l : List (Value × (Addr → Value → Option Addr → TS))) (tb : WX → TS) : TS := fun D σ H => tb (wMany K Wout D l) D σ H
theorem ps_tryM {X : Cx} {body : List Stmt} {h₀ : ExceptHandler} {hds : List ExceptHandler} {l : List (Value × (Addr → Value → Option Addr → TS))} {pos : Pos} {tb : WX → TS} {Wout : WX} (hs : X.stack = X.env :: X.outer) (hf : X.env.frame = some X.env.locals) (tk : L2N.Takes X Wout)
    (hb : ∀ (W : WX) (pn : List (Addr × Obj)) (xe : Value → Shared → Prop), L2N.Takes (X.tr pn xe) W → PassesOwn (model X.prog X.w) X.A X.env xe → PSs (X.tr pn xe) body (tb W))
    (hh : L2N.HdsOk X (h₀ :: hds) l) : PS X (.Try body (h₀ :: hds) [] [] pos) (tTryM X.K Wout l tb) := L2N.ps_try_many hs hf tk hb hh
/-! ### parts of lists -/
def cutX {α : Type} (xs : List α) (lo hi : Option Int) : List α := (xs.drop (HT.sIx xs.length 0 lo)).take (HT.sIx xs.length xs.length hi - HT.sIx xs.length 0 lo)
theorem cutV_map {α : Type} (f : α → V) (xs : List α) (lo hi : Option Int) : cutV (xs.map f) lo hi = (cutX xs lo hi).map f := by
  unfold cutV cutX
  rw [List.length_map, List.map_take, List.map_drop]
theorem cutX_len {α : Type} (xs : List α) (lo hi : Option Int) : (cutX xs lo hi).length = min (HT.sIx xs.length xs.length hi - HT.sIx xs.length 0 lo) (xs.length - HT.sIx xs.length 0 lo) := by
  unfold cutX
  rw [List.length_take, List.length_drop]
theorem cutX_mem {α : Type} {xs : List α} {lo hi : Option Int} {x : α} (h : x ∈ cutX xs lo hi) : x ∈ xs := List.mem_of_mem_drop (List.mem_of_mem_take h)
theorem sIx_neg1 (n d : Nat) : HT.sIx n d (some (-1)) = n - 1 := by
  show (if (-1 : Int) < 0 then ((-1 : Int) + (n : Int)).toNat else min (-1 : Int).toNat n) = n - 1
  rw [if_pos (by decide)]
  omega
theorem sIx_one (n d : Nat) : HT.sIx n d (some 1) = min 1 n := HT.sIx_nat n d 1
theorem eqv_nil2 (xs : List V) : PyData.eqv (.list (xs.map dat)) (.list []) = xs.isEmpty := eqv_nil xs
/-! ### xs[::-1] -/
def tRevLN (K : PySem.W.Frag) (te : TE) : TE := fun σ H Q => te σ H fun x H1 => ∃ a xs, x = .ref a ∧ SqL K H1 a xs ∧ ∀ p H', H1 p = none → Same H1 H' → H' p = some (.lst xs.reverse) → Q (.ref p) H'
theorem pe_revLN {X : Cx} {e : Expr} {te : TE} {k : Nat} {p1 p2 p3 pos : Pos} (he : PE X e te) : PE X (.Subscript e (.Slice none none (some (.UnaryOp .USub (.Constant (.int 1) k p1) p2)) p3) pos) (tRevLN X.K te) :=
  (pe_revL (pe_mid he)).weak fun σ H Q q => ⟨_, q, fun v H1 ⟨a, xs, e1, hx, q1⟩ => ⟨a, xs, e1, hx, fun p hp => q1 p _ hp (same_new hp) upd_same⟩⟩
/-! ### d[k] = v, the heap behind it open -/
theorem dput_go {td q : Addr} {v : V} {H : Hp} {kvs : List (List Key × V)} {k : List Key} {G : Hp → Prop} (h : H td = some (.dT kvs)) (hq : H q = some (.tup (k.map kV))) (hl : kvs.length < 100000)
    (g : ∀ H', SameB td H H' → H' td = some (.dT (putK kvs k v)) → G H') : ∃ a H4, V.ref td = .ref a ∧ DPut H a (.ref q) v H4 ∧ G H4 := ⟨td, _, rfl, DPut.t h hq (szlt hl), g _ sameB_upd upd_same⟩
def toldK (rs : List Row) : List (List Key × V) := rs.map fun r => (wayK r.1 r.2.1, V.bl true)
theorem told_new {rs : List Row} {x y : Str} {n : Int} (h : (x, y) ∉ rs.map fun r => (r.1, r.2.1)) : putK (toldK rs) (wayK x y) (.bl true) = toldK (rs ++ [(x, y, n)]) := by
  rw [putK_new _ (show valV (toldK rs) (wayK x y) = none from way_none (fun _ => V.bl true) h)]
  unfold toldK
  rw [List.map_append]; rfl
theorem told_has {rs : List Row} {x y : Str} : (valV (toldK rs) (wayK x y)).isSome = decide ((x, y) ∈ rs.map fun r => (r.1, r.2.1)) := by
  by_cases h : (x, y) ∈ rs.map fun r => (r.1, r.2.1)
  · rw [decide_eq_true h]
    cases e : valV (toldK rs) (wayK x y) with
    | none => exact absurd h (way_new (fun _ => V.bl true) e)
    | some v => rfl
  · rw [decide_eq_false h, show valV (toldK rs) (wayK x y) = none from way_none (fun _ => V.bl true) h]; rfl
theorem isC_of {n : Int} (h0 : 0 ≤ n) (h1 : n ≤ 1000000000000) : isC (.int n) = true := by
  show (decide (0 ≤ n) && decide (n ≤ 1000000000000)) = true
  rw [decide_eq_true h0, decide_eq_true h1]; rfl
end Fb

namespace Fb
open PySem PySem.Spec PyProof.Rows L2
/-! ### within a suite or a comprehension: rules by K -/
section
variable {X : Cx} {K : PySem.W.Frag}
theorem call_len_seqS (hK : X.K = K := by rfl) : CallR X (.builtin "len") (fun xs H Q => ∃ p ys, xs = [.ref p] ∧ (SqL K H p ys ∨ SqT K H p ys) ∧ Q (.int ys.length) H) := hK ▸ call_len_seq
theorem call_isiS (hK : X.K = K := by rfl) : CallR X (.builtin "isinstance") (rIsi K) := hK ▸ call_isi
theorem op_in_seqS (hK : X.K = K := by rfl) : OpR X (compareOp .In) (rIn K false) := hK ▸ op_in_seq
theorem op_notIn_seqS (hK : X.K = K := by rfl) : OpR X (compareOp .NotIn) (rIn K true) := hK ▸ op_notIn_seq
theorem sl_listNS (hK : X.K = K := by rfl) : SlR X (rSlLN K) := hK ▸ sl_listN
theorem op_catNS (hK : X.K = K := by rfl) : OpR X (binaryOp .Add) (rCatN K) := hK ▸ op_catN
theorem call_list_ofNS (hK : X.K = K := by rfl) : CallR X (.type "list") (rListOfN K) := hK ▸ call_list_ofN
end
/-! ### the law's table asked -/
theorem tab_get {rs : List Row} {xs : List Str} {i j : Nat} : (valV (rs.map rowK) (wayK (xat xs i) (xat xs j))).getD .non = optV (stp (pri rs) xs i j) := look_pri
theorem tab_get0 {rs : List Row} {xs : List Str} {i j : Nat} : (valV (rs.map rowK) (wayK (xat xs i) (xat xs j))).getD (.int 0) = .int ((stp (pri rs) xs i j).getD 0) := by
  show _ = V.int ((pri rs (xat xs i) (xat xs j)).getD 0)
  cases e : pri rs (xat xs i) (xat xs j) with
  | none => rw [show valV (rs.map rowK) (wayK (xat xs i) (xat xs j)) = none from pri_non e]; rfl
  | some n => rw [show valV (rs.map rowK) (wayK (xat xs i) (xat xs j)) = some (.int n) from pri_val e]; rfl
theorem pri_ok {rs : List Row} (g : GoodRows rs) {x y : Str} {n : Int} (h : pri rs x y = some n) : 0 ≤ n ∧ n ≤ 1000000000000 := by
  have h1 : (decide (0 ≤ n) && decide (n ≤ 1000000000000)) = true := (g.ok _ (pri_mem h)).c
  simpa using h1
theorem stp_ok {rs : List Row} (g : GoodRows rs) {xs : List Str} {i j : Nat} {n : Int} (h : stp (pri rs) xs i j = some n) : 0 ≤ n ∧ n ≤ 1000000000000 := pri_ok g h
theorem dear0 {rs : List Row} (g : GoodRows rs) {xs : List Str} {i j k m : Nat} {p : Int} (hp : stp (pri rs) xs i j = some p) : (p < (stp (pri rs) xs k m).getD 0) ↔ dear (pri rs) xs p k m := by
  have h0 := (stp_ok g hp).1
  cases e : stp (pri rs) xs k m with
  | none =>
    constructor
    · intro h
      have h2 : p < 0 := h
      omega
    · rintro ⟨q, e2, _⟩
      rw [e] at e2; cases e2
  | some q =>
    constructor
    · intro h; exact ⟨q, e, h⟩
    · rintro ⟨q', e2, h⟩
      rw [e] at e2; cases e2
      exact h
theorem cut_again {xs : List Str} {i k : Nat} (hik : i ≤ k) (hk : k < xs.length) : xat xs k ∈ cutX xs (some (i : Int)) (some (k : Int)) ↔ again xs i k := by
  have e : cutX xs (some (i : Int)) (some (k : Int)) = (xs.drop i).take (k - i) := by
    unfold cutX
    rw [HT.sIx_nat, HT.sIx_nat, Nat.min_eq_left (show i ≤ xs.length by omega), Nat.min_eq_left (show k ≤ xs.length by omega)]
  rw [e]
  constructor
  · intro h
    obtain ⟨n, hn⟩ := List.getElem?_of_mem h
    have hl := (List.getElem?_eq_some_iff.mp hn).1
    rw [List.length_take, List.length_drop] at hl
    rw [List.getElem?_take_of_lt (by omega), List.getElem?_drop] at hn
    exact ⟨i + n, by omega, by omega, xat_of hn⟩
  · rintro ⟨m, h1, h2, e3⟩
    rw [← e3]
    refine List.mem_of_getElem? (i := m - i) ?_
    rw [List.getElem?_take_of_lt (by omega), List.getElem?_drop, show i + (m - i) = m by omega]
    exact xat_get (by omega)
end Fb

namespace Fb
open PySem PySem.Spec PyProof.Rows L2
theorem modN (x : Int) {n : Nat} (h : 0 < n) : ∃ c : Nat, x % (n : Int) = (c : Int) ∧ c < n := by
  have m0 : 0 ≤ x % (n : Int) := Int.emod_nonneg _ (by omega)
  have m1 : x % (n : Int) < (n : Int) := Int.emod_lt_of_pos _ (by omega)
  exact ⟨(x % (n : Int)).toNat, by omega, by omega⟩
/-- an item of a list of whole numbers, at a rest -/
theorem atI_ints (zs : List Int) {i : Int} (h0 : 0 ≤ i) (h1 : i < zs.length) : ∃ z, atI (zs.map V.int) i = some (.int z) ∧ z ∈ zs := by
  obtain ⟨v, hv, hm⟩ := atI_mem (xs := zs.map V.int) h0 (by rw [List.length_map]; exact h1)
  obtain ⟨z, hz, rfl⟩ := List.mem_map.mp hm
  exact ⟨z, hv, hz⟩
theorem eqV_str {x k : Str} : eqV (.str x) (.str k) = decide (x = k) := by
  rw [Bool.eq_iff_iff, decide_eq_true_iff]
  simp [eqV]
theorem first_at {xs : List Str} (y : Str) : ∀ n : Nat, (∀ i, i < n → xat xs i ≠ y) ∨ ∃ m, m < n ∧ xat xs m = y ∧ ∀ i, i < m → xat xs i ≠ y
  | 0 => .inl fun i hi => absurd hi (Nat.not_lt_zero _)
  | n + 1 => by
    rcases first_at y n with h | ⟨m, h1, h2, h3⟩
    · by_cases c : xat xs n = y
      · exact .inr ⟨n, by omega, c, h⟩
      · refine .inl fun i hi => ?_
        by_cases e : i = n
        · rw [e]; exact c
        · exact h i (by omega)
    · exact .inr ⟨m, by omega, h2, h3⟩
theorem first_at' {xs : List Str} {k : Nat} : ∃ m, m ≤ k ∧ xat xs m = xat xs k ∧ ∀ i, i < m → xat xs i ≠ xat xs k := by
  rcases first_at (xs := xs) (xat xs k) (k + 1) with h | ⟨m, h1, h2, h3⟩
  · exact absurd rfl (h k (by omega))
  · exact ⟨m, by omega, h2, h3⟩
theorem pick_mem {pf : Nat → Bool} {f : Nat → V} {n : Nat} {v : V} (h : v ∈ pick pf f n) : ∃ i, i < n ∧ pf i = true ∧ v = f i := by
  obtain ⟨i, hi, rfl⟩ := List.mem_map.mp h
  obtain ⟨h1, h2⟩ := List.mem_filter.mp hi
  exact ⟨i, List.mem_range.mp h1, h2, rfl⟩
theorem take_snoc {α : Type} {xs : List α} {i : Nat} {x : α} (h : xs[i]? = some x) : xs.take i ++ [x] = xs.take (i + 1) := by
  rw [List.take_succ, h]; rfl
theorem nd_fresh {rs : List Row} {i : Nat} {r : Row} (g : GoodRows rs) (h : rs[i]? = some r) : (r.1, r.2.1) ∉ (rs.take i).map fun r => (r.1, r.2.1) := by
  have h2 := (good_take g (i + 1)).nd
  rw [← take_snoc h, List.map_append, List.nodup_append] at h2
  exact fun hm => h2.2.2 _ hm _ (by simp) rfl
end Fb

set_option Elab.async false
set_option linter.all false
set_option maxRecDepth 100000
set_option maxHeartbeats 4000000
/-! ### len(set(xs)), xs a list of any texts -/
namespace Fb
open PySem PySem.Spec PyProof.Rows
/-- how many the set holds once the first i texts are in -/
def Met (P : Program) (w : World) (xs : List Str) (h : Heap) (D : Addr) (i : Nat) : Prop := ∃ c, c ≤ i ∧ (c = i ↔ (xs.take i).Nodup) ∧ h.SetOf (PySem.strKind P w) D (fun k => decide (k ∈ xs.take i)) c
theorem Met.at {P : Program} {w : World} {xs : List Str} {h h' : Heap} {D : Addr} {i : Nat} (m : Met P w xs h D i) (k : ∀ o, h.get? D = some o → h'.get? D = some o) : Met P w xs h' D i := by
  obtain ⟨c, h1, h2, o, es, ep, t, ho, r⟩ := m
  exact ⟨c, h1, h2, o, es, ep, t, k _ ho, r⟩
theorem nd_snoc {xs : List Str} {i : Nat} {x : Str} (h : xs[i]? = some x) : (xs.take (i + 1)).Nodup ↔ x ∉ xs.take i ∧ (xs.take i).Nodup := by
  rw [← take_snoc h, List.nodup_append]
  constructor
  · rintro ⟨a, _, b⟩
    exact ⟨fun m => b _ m x (by simp) rfl, a⟩
  · rintro ⟨a, b⟩
    refine ⟨b, by simp, fun y hy z hz e => ?_⟩
    rw [List.mem_singleton.mp hz] at e
    rw [e] at hy; exact a hy
theorem Met.step {P : Program} {w : World} {xs : List Str} {h : Heap} {D : Addr} {i c : Nat} {x : Str} (hx : xs[i]? = some x) (h1 : c ≤ i) (h2 : c = i ↔ (xs.take i).Nodup)
    (s : h.SetOf (PySem.strKind P w) D (fun k => decide (k ∈ xs.take i) || decide (k = x)) (if decide (x ∈ xs.take i) = true then c else c + 1)) : Met P w xs h D (i + 1) := by
  refine ⟨_, ?_, ?_, PyProof.Rows.SetOf_congr s (fun k => ?_) rfl⟩
  · split <;> omega
  · rw [nd_snoc hx]
    by_cases m : x ∈ xs.take i
    · rw [if_pos (decide_eq_true m)]
      exact ⟨fun e => by omega, fun e => absurd m e.1⟩
    · rw [if_neg (by simpa using m)]
      exact ⟨fun e => ⟨m, h2.mp (by omega)⟩, fun e => by rw [h2.mpr e.2]⟩
  · show (decide (k ∈ xs.take i) || decide (k = x)) = decide (k ∈ xs.take (i + 1))
    rw [← take_snoc hx]
    simp [List.mem_append]
section
variable {P : Program} {w : World} {A : Around} {E : Value → Shared → Prop} {s : Shared}
theorem strs_loop {I : Addr} {fp wr : List Addr} {G : Array GenState → Array GenState → Prop} {n : Nat} {Pv : Nat → Value → Prop} {St : Nat → Shared → Prop} {R : Result → Shared → Prop}
    (W : WalksS P w A.in1 I fp wr G n Pv St) (D : Addr) (hD : D ∉ fp) (xs : List Str) (hn : n = xs.length) (hb : xs.length + 1 < scanBound) (hv : ∀ i v, Pv i v → ∃ z t, xs[i]? = some z ∧ v = .str z t) :
    ∀ (k i : Nat) (s : Shared), n = i + k → St i s → Met P w xs s.heap D i → (∀ s', Moved (D :: wr) G s s' → Met P w xs s'.heap D n → R (.ok (.ret .none)) s') →
      codeAny (model P w) A (.builtin "set.update.loop" ⟨[.ref D, .ref I], []⟩) R s
  | 0, i, s, e, hst, hm, q => by
    obtain rfl : n = i := e
    refine codeAny_builtin PyProof.Rows.F.entry_set_update_loop ?_
    rw [Around.under_plainId PyProof.Rows.F.plain_set_update_loop _]
    show wpAny _ A.in1 (pyNext (.ref I) >>= _) _ _ s
    refine wpAny_bind (W.done s _ _ hst fun s' mv => ?_)
    show wpAny _ A.in1 (ret Value.none) _ _ s'
    exact wpAny_pure (q s' (mv.mono fun b hb => List.mem_cons_of_mem _ hb) (hm.at fun o e => mv.heap D o (fun h => hD (W.sub _ h)) e))
  | k + 1, i, s, e, hst, hm, q => by
    refine codeAny_builtin PyProof.Rows.F.entry_set_update_loop ?_
    rw [Around.under_plainId PyProof.Rows.F.plain_set_update_loop _]
    show wpAny _ A.in1 (pyNext (.ref I) >>= _) _ _ s
    refine wpAny_bind (W.item i s _ _ (by omega) hst fun v s' hP hst' mv => ?_)
    obtain ⟨z, t, hz, rfl⟩ := hv i v hP
    obtain ⟨c, h1, h2, h3⟩ := hm.at (h' := s'.heap) fun o e => mv.heap D o (fun h => hD (W.sub _ h)) e
    show wpAny _ A.in1 (holding [Value.str z t] (setAdd D (.str z t)) >>= _) _ _ s'
    refine wpAny_bind (wpAny_holding ?_)
    unfold setAdd
    refine wpAny_holding (wpAny_bind ((PySem.strKind P w).pyHash (k := z) (strKind_is _ _ _ _) ?_))
    refine wpAny_setAddHashed_of (knd := PySem.strKind P w) (s := { s' with toks := s'.toks + 1 }) (strKind_is _ _ _ _) rfl h3 (by unfold scanBound at hb ⊢; omega) fun h' sb hS => ?_
    refine wpAny_pure ⟨plainId_quiet PyProof.Rows.F.plain_set_update_loop _, strs_loop W D hD xs hn hb hv k (i + 1) _ (by omega) (W.frame _ s' _ _ hst' (Nat.le_succ _) fun b hb o e => ?_) (Met.step hz h1 h2 hS) fun s'' mv2 hm2 => ?_⟩
    · rw [sb.2 b (fun h : b = D => hD (by rw [← h]; exact hb))]; exact e
    · refine q s'' (Moved.trans W.gtrans ((mv.mono fun b hb => List.mem_cons_of_mem _ hb).then_heap (Nat.le_succ _) fun b o hb e => ?_) mv2) hm2
      rw [sb.2 b (fun h : b = D => hb (by rw [h]; exact List.mem_cons_self))]; exact e
/-- an empty set -/
abbrev set0 (led : Bool) : Obj := { cls := .type "set", dict := none, data := .set #[] 0 (.fresh 0 0 led) }
theorem set_of_strs {l : Addr} {items : Array Value} {xs : List Str} {Q : Value → Shared → Prop} (hh : A.handled = none) (hl : s.heap.IsList l items) (hi : StrsAre items.toList xs) (hb : xs.length + 1 < scanBound)
    (h : ∀ (h' : Heap) (tk : Nat), Met P w xs h' s.heap.objs.size xs.length → (∀ b o, b < s.heap.objs.size → s.heap.get? b = some o → h'.get? b = some o) → Q (.ref s.heap.objs.size) { s with heap := h', toks := tk }) :
    wpAny (model P w) A (call (.type "set") [.ref l]) Q E s := by
  have hlen : xs.length = items.size := by rw [← StrsAre.len_eq hi, Array.length_toList]
  obtain ⟨_, _, _⟩ := PySem.F.called_set.mro
  have := PySem.F.called_set.made
  have := PySem.F.called_set.sub
  have := PySem.F.called_set.notType
  have := PySem.F.called_set.canCreate
  have := PySem.F.typeCall_set_1 (.ref l)
  refine wpAny_call (codeAny_of_tree ?_)
  show wpAny _ _ (callAny (.type "set") _) _ _ _
  refine wpAny_pure ⟨Code.quiet_builtin _ (by decide +kernel), codeAny_builtin PySem.F.entry_type_call ?_⟩
  rw [Around.under_plain (weight_type_call_type "set" [.ref l] []) rfl]
  repeat (any_goals (first | assumption | wp_step))
  refine codeAny_mono (code_set_new_1 (.ref l) (E := E) (Q₁ := fun obj s₁ => ∃ led : Bool, obj = .ref s.heap.objs.size ∧ s₁ = { s with heap := s.heap.push (set0 led) }) fun led => ⟨led, rfl, rfl⟩) fun r s₁ hr => ?_
  match r, hr with
  | .error _, hr => exact hr
  | .ok (.ret obj), hr =>
    obtain ⟨led, rfl, rfl⟩ := hr
    have hS : (s.heap.push (set0 led)).get? s.heap.objs.size = some (set0 led) := Heap.get?_push_size _ rfl
    have hT : Shared.TypeIs { s with heap := s.heap.push (set0 led) } (.ref s.heap.objs.size) "set" := ⟨_, hS, rfl⟩
    have := PySem.F.called_set.init.lookup
    have := PySem.F.called_set.init.bind (.ref s.heap.objs.size)
    repeat (any_goals (first | assumption | wp_step))
    refine codeAny_mono (codeAny_call_builtin (R := wants (fun r s₂ => r = .none ∧ ∃ h' tk, s₂ = { s with heap := h', toks := tk } ∧ Met P w xs h' s.heap.objs.size xs.length ∧ (∀ b o, b < s.heap.objs.size → s.heap.get? b = some o → h'.get? b = some o)) E)
      PySem.F.called_set.init.plain PySem.F.entry_set_init (check_set_init_1 hT ?_)) fun r₂ s₂ hr₂ => ?_
    · obtain ⟨⟨_, _, _, _⟩, hol, rfl, nl, rfl⟩ := hl
      have hl1 : (s.heap.push (set0 led)).IsList l items := ⟨_, Heap.get?_push_of_some _ hol, rfl, nl, rfl⟩
      have hol' := Heap.get?_push_of_some (set0 led) hol
      have := PySem.F.sub_list_set
      have := PySem.F.sub_list_frozenset
      have : (Value.type "list" == Value.type "dict") = false := by decide
      unfold Builtin.«set.__init__» noKeywords Builtin.Frozenset.updateFrom
      generalize e : pyIter = it
      wp_walk
      subst e
      have lt : l < s.heap.objs.size := Heap.lt_size hol
      have n1 : l ≠ (s.heap.push (set0 led)).objs.size := by rw [Heap.size_push]; exact Nat.ne_of_lt (Nat.lt_succ_of_lt lt)
      refine wpAny_pyIter_list hl1 (wpAny_bind (wpAny_runValue ?_))
      refine strs_loop ((Walks.list (by simp [hh]) _ l n1 items).toS) s.heap.objs.size (fun h => by
        rcases List.mem_cons.mp h with h | h
        · rw [Heap.size_push] at h; exact absurd h (Nat.ne_of_lt (Nat.lt_succ_self _))
        · exact absurd (List.mem_singleton.mp h) (Nat.ne_of_gt lt)) xs hlen.symm hb (fun i v hv => ?_) items.size 0 _ (by omega)
        ⟨⟨_, Heap.get?_push_size _ rfl, rfl, rfl⟩, hl1.push _⟩ ⟨0, Nat.le_refl _, by simp, ?_⟩ fun s' mv hm => ?_
      · have hi' : i < xs.length := by rw [hlen]; exact (Array.getElem?_eq_some_iff.mp hv).1
        obtain ⟨t, e⟩ := SS.strs_at hi i v (by rw [Array.getElem?_toList]; exact hv)
        exact ⟨_, t, List.getElem?_eq_getElem hi', by rw [e, List.getD_eq_getElem?_getD, List.getElem?_eq_getElem hi']; rfl⟩
      · exact SetOf_congr ((setObjOf_fresh (knd := PySem.strKind P w) led).setOf (Heap.get?_push_of_some _ hS) (by unfold scanBound; decide)) (fun k => by simp) rfl
      · obtain ⟨h', g', d', tk', os'⟩ := s'
        obtain rfl : g' = s.gens := mv.gens
        obtain rfl : d' = s.drawn := mv.drawn
        obtain rfl : os' = s.os := mv.os
        show wpAny _ _ _ _ _ _
        refine wpAny_pure ?_
        show wpAny _ _ (ret Value.none) _ _ _
        refine wpAny_pure ⟨rfl, h', tk', rfl, by rw [hlen]; exact hm, fun b o hb e => mv.heap b o ?_ (Heap.get?_push_of_some _ (Heap.get?_push_of_some _ e))⟩
        intro h
        rcases List.mem_cons.mp h with h | h
        · exact absurd h (Nat.ne_of_lt hb)
        · rw [List.mem_singleton.mp h, Heap.size_push] at hb
          exact absurd hb (Nat.not_lt.mpr (Nat.le_succ _))
    · match r₂, hr₂ with
      | .error _, hr₂ => exact hr₂
      | .ok (.ret _), ⟨e, h', tk, e2, hm, hk⟩ =>
        subst e; subst e2
        repeat (any_goals (first | assumption | wp_step))
        exact h _ _ hm hk
      | .ok .next, hr₂ => exact hr₂.elim
      | .ok .brk, hr₂ => exact hr₂.elim
      | .ok .cont, hr₂ => exact hr₂.elim
  | .ok .next, hr => exact hr.elim
  | .ok .brk, hr => exact hr.elim
  | .ok .cont, hr => exact hr.elim
end
end Fb

namespace Fb
open PySem PySem.Spec PyProof.Rows L2
/-- len(set(xs)), xs a list of texts: as many as xs has just if none comes twice -/
def tLenSetN (K : PySem.W.Frag) (ta : TE) : TE := fun σ H Q => ta σ H fun x H1 => ∃ (l : Addr) (xs : List Str), x = .ref l ∧ SqL K H1 l (xs.map V.str) ∧ xs.length ≤ 1000 ∧ ∀ c : Nat, c ≤ xs.length → (c = xs.length ↔ xs.Nodup) → Q (.int (c : Nat)) H1
theorem pe_lenSetN {X : Cx} {a : Expr} {ta : TE} {p p2 q pos : Pos} (hc : X.calm = true) (hg : Gl X "len") (hm : X.mg "len" = none) (hg2 : Gl X "set") (hm2 : X.mg "set" = none) (ha : PE X a ta)
    (na : starEach [a] X.env = (false, eval a X.env) :: starEach [] X.env := by rfl) : PE X (.Call (.Name "len" p) [.Call (.Name "set" p2) [a] [] q] [] pos) (tLenSetN X.K ta) := by
  refine ⟨fun pins s σ H Q I h => ?_⟩
  refine Call_ (ld_blt I hg hm boot_len (callWith_builtin1 (args_cons ?_ rfl) rfl rfl))
  refine Call_ (ld_blt I hg2 hm2 boot_set (callWith_type1 (args_cons (thn (ha.run pins s σ H _ I h) fun v s1 ⟨x, H1, I1, r1, q1⟩ => args_nil ?_) na) na rfl))
  obtain ⟨l, xs, rfl, hq, hl, q1⟩ := q1
  cases r1
  obtain ⟨its, r, pl, hz⟩ := I1.list hq
  refine set_of_strs (xs := xs) (I1.ok.hd hc) pl.isList (by simpa using strsAre_of r) (by unfold scanBound; omega) fun h' tk hM hk => ?_
  obtain ⟨c, c1, c2, o, es, ep, t, ho, hex, hd, h1, h2, h3, hf, hn⟩ := hM
  refine args_nil ?_
  have I2 : Inv X pins σ H1 { s1 with heap := h', toks := tk } := I1.kept fun b o e => hk b o (Heap.lt_size e) e
  rw [List.take_length] at c2
  exact call_len_set ho hex hd hf (by rw [hn] <;> omega) ⟨.int c, H1, I2.tok _, ⟨_, by rw [hn]⟩, q1 c c1 c2⟩
end Fb

namespace Fb
open PySem PySem.Spec PyProof.Rows L2
/-! ### lists of lists -/
def listsD (n : Nat) (f : Nat → List V) : List PyData := (List.range n).map fun i => .list ((f i).map dat)
theorem listsD_succ (n : Nat) (f : Nat → List V) : listsD (n + 1) f = .list ((f 0).map dat) :: listsD n fun i => f (i + 1) := by
  unfold listsD
  rw [List.range_succ_eq_map, List.map_cons, List.map_map]; rfl
theorem dp_lists {K : PySem.W.Frag} {H : Hp} : ∀ {ts : List Addr} {f : Nat → List V}, (∀ i t, ts[i]? = some t → SqL K H t (f i)) → (∀ i v, i < ts.length → v ∈ f i → flat v) → DpAll K H (ts.map V.ref) (listsD ts.length f)
  | [], f, _, _ => .nil
  | t :: ts, f, h, g => by
    rw [List.length_cons, listsD_succ]
    exact .cons (.lst (h 0 t rfl) (dpAll_flat fun v hv => g 0 v (Nat.succ_pos _) hv)) (dp_lists (fun i t ht => h (i + 1) t (by simpa using ht)) fun i v hi hv => g (i + 1) v (by rw [List.length_cons]; omega) hv)
theorem lay_lists : ∀ {n : Nat} {f : Nat → List V}, (∀ i v, i < n → v ∈ f i → flat v) → PyData.canLayAll0 (listsD n f) = true ∧ PyData.depthAll (listsD n f) ≤ 1
  | 0, f, _ => ⟨by simp [listsD, PyData.canLayAll0], by simp [listsD, PyData.depthAll]⟩
  | n + 1, f, g => by
    have h1 := layAll_flat (fun v hv => g 0 v (Nat.succ_pos _) hv)
    have h2 := lay_lists (n := n) (f := fun i => f (i + 1)) fun i v hi hv => g (i + 1) v (by omega) hv
    have e1 : PyData.canLay0 (.list ((f 0).map dat)) = true := by rw [PyData.canLay0, h1.1]
    have e2 : PyData.depth (.list ((f 0).map dat)) = 1 := by rw [PyData.depth, h1.2]
    rw [listsD_succ]
    refine ⟨?_, ?_⟩
    · rw [PyData.canLayAll0, e1, h2.1]; rfl
    · rw [PyData.depthAll, e2]
      exact Nat.max_le.mpr ⟨Nat.le_refl _, h2.2⟩
theorem shaped_lists {n : Nat} {f : Nat → List V} (g : ∀ i v, i < n → v ∈ f i → flat v) : SeqAt.shaped (.list (listsD n f)) = true := by
  have h := lay_lists g
  unfold SeqAt.shaped
  rw [PyData.canLay0, h.1, PyData.depth]
  rw [decide_eq_true (show PyData.depthAll (listsD n f) + 1 ≤ 64 by omega)]; rfl
end Fb

set_option Elab.async false
set_option linter.all false
set_option maxRecDepth 100000
set_option maxHeartbeats 4000000
/-! ### list(zip(a, b)), a and b lists -/
namespace Fb
open PySem PySem.Spec PyProof.Rows L2
theorem zip_no_len : typeLookup (.type "zip") "__len__" = pure none := by rw [typeLookup_type, builtinLookup_eq_fast]; kernel_rfl
theorem zip_no_hint : typeLookup (.type "zip") "__length_hint__" = pure none := by rw [typeLookup_type, builtinLookup_eq_fast]; kernel_rfl
/-- the zip after i pairs: its result is its own still, or it is out and known to H -/
def ZAt (z TI TO i1 i2 a b : Addr) (i : Nat) (H : Hp) (h : Heap) : Prop := IsPair h TI (.ref i1) (.ref i2) ∧ h.IsListIter i1 a i ∧ h.IsListIter i2 b i ∧
  TO < h.objs.size ∧ ((IsZip h z TI TO .none ∧ ∃ u v, IsPair h TO u v) ∨ ∃ T f xs, IsZipHeld h z TI TO T f ∧ H T = some (.tup xs))
/-- the pairs at Ts -/
def PairsAt (H : Hp) (Ts : List Addr) (xs ys : List V) : Prop := ∀ (j : Nat) T x y, Ts[j]? = some T → xs[j]? = some x → ys[j]? = some y → H T = some (.tup [x, y])
section
variable {X : Cx} {pins : List (Addr × Obj)} {σ : L2.St} {A : Around} {R : Result → Shared → Prop} {z TI TO i1 i2 a b D : Addr} {xs ys : List V} {res : Value}
theorem zip_drain (hh : A.handled = none) (za : ZipApart z TI TO i1 i2 a b) (nD : D ∉ [z, TI, TO, i1, i2]) (na : a ≠ D) (nb : b ≠ D) (hs : min xs.length ys.length ≤ 1000) :
    ∀ (k i : Nat) (s : Shared) (H : Hp) (Ts : List Addr), min xs.length ys.length = i + k → Inv X pins σ H s → (∀ c ∈ [z, TI, TO, i1, i2], FpOk X pins H c) → ZAt z TI TO i1 i2 a b i H s.heap → SqL X.K H a xs → SqL X.K H b ys →
      H D = some (.lst (Ts.map V.ref)) → Ts.length = i → PairsAt H Ts xs ys →
      (∀ s' H' Ts', Inv X pins σ H' s' → SameB D H H' → H' D = some (.lst (Ts'.map V.ref)) → Ts'.length = min xs.length ys.length → PairsAt H' Ts' xs ys → R (.ok (.ret res)) s') →
      codeAny (model X.prog X.w) A (.builtin "list.extend.loop" ⟨[.ref D, .ref z, res], []⟩) R s
  | 0, i, s, H, Ts, e, I, hf, ⟨hTI, h1, h2, hTOl, hz⟩, hqx, hqy, hD, hl, hp, q => by
    obtain ⟨its, rv, p, _⟩ := I.list hqx
    obtain ⟨its2, rv2, p2, _⟩ := I.list hqy
    have l1 := rv.length
    have l2 := rv2.length
    have he : its.toArray[i]? = none ∨ its2.toArray[i]? = none := by
      by_cases c : xs.length ≤ ys.length
      · exact .inl (by simp; omega)
      · exact .inr (by simp; omega)
    refine codeAny_builtin F.entry_extend_loop ?_
    rw [Around.under_plainId F.plain_extend_loop _]
    show wpAny _ A.in1 (pyNext (.ref z) >>= _) _ _ s
    refine wpAny_bind ?_
    have fin : ∀ h', (∀ c o, c ≠ z → c ≠ TO → c ≠ i1 → c ≠ i2 → s.heap.get? c = some o → h'.get? c = some o) → R (.ok (.ret res)) { s with heap := h' } := fun h' hk =>
      q _ H Ts (I.turnedL (t' := s.toks) (ch := [z, TI, TO, i1, i2]) (fun c o hb e => hk c o (fun q' => hb (by simp [q'])) (fun q' => hb (by simp [q'])) (fun q' => hb (by simp [q'])) (fun q' => hb (by simp [q'])) e) hf) SameB.refl hD (by omega) hp
    rcases hz with ⟨hz, u, v, hTO⟩ | ⟨T, f, us, hz, hT⟩
    · exact wpAny_pyNext_zip_end hh za hz hTI hTO h1 h2 p.isList p2.isList he fun h' hk => wpAny_pure (fin h' hk)
    · obtain ⟨_, _, _, oT, hoT, _⟩ := I.hok T _ hT
      exact wpAny_pyNext_zip_end_held hh za hz hoT hTI h1 h2 p.isList p2.isList he fun h' hk => wpAny_pure (fin h' fun c o c1 _ c3 c4 => hk c o c1 c3 c4)
  | k + 1, i, s, H, Ts, e, I, hf, ⟨hTI, h1, h2, hTOl, hz⟩, hqx, hqy, hD, hl, hp, q => by
    obtain ⟨its, rv, p, _⟩ := I.list hqx
    obtain ⟨its2, rv2, p2, _⟩ := I.list hqy
    have hx : xs[i]? = some xs[i] := List.getElem?_eq_getElem (by omega)
    have hy : ys[i]? = some ys[i] := List.getElem?_eq_getElem (by omega)
    obtain ⟨u, hu, ru⟩ := rv.get hx
    obtain ⟨u2, hu2, ru2⟩ := rv2.get hy
    generalize hxi : xs[i] = x at hx ru
    generalize hyi : ys[i] = y at hy ru2
    refine codeAny_builtin F.entry_extend_loop ?_
    rw [Around.under_plainId F.plain_extend_loop _]
    show wpAny _ A.in1 (pyNext (.ref z) >>= _) _ _ s
    refine wpAny_bind ?_
    have Tn : H s.heap.objs.size = none := I.hok.fresh (Nat.le_refl _)
    have TD : s.heap.objs.size ≠ D := fun e => by rw [e, hD] at Tn; cases Tn
    have step : ∀ h' f us, (∀ c o, c ≠ z → c ≠ TO → c ≠ i1 → c ≠ i2 → s.heap.get? c = some o → h'.get? c = some o) → IsZipHeld h' z TI TO us f → (us = s.heap.objs.size ∨ ∃ vs, H us = some (.tup vs)) → h'.objs.size = s.heap.objs.size + 1 →
        h'.IsListIter i1 a (i + 1) → h'.IsListIter i2 b (i + 1) → IsPair h' s.heap.objs.size u u2 →
        ∃ acc n, h'.get? D = some { cls := .type "list", data := .seq acc n } ∧ acc.size = i ∧ codeAny (model X.prog X.w) A (.builtin "list.extend.loop" ⟨[.ref D, .ref z, res], []⟩) R { s with heap := h'.update D (Obj.mapSeq (·.push (.ref s.heap.objs.size))) } := fun h' f us hk hzh hfo hsz h1' h2' hT => by
      have new : ObjOk X.prog X.w (upd H s.heap.objs.size (.tup [x, y])) h' s.heap.objs.size (.tup [x, y]) := ⟨by show 2 ≤ sizeLine; decide, [u, u2], .cons ru (.cons ru2 .nil), ⟨_, hT, rfl, _, rfl⟩⟩
      have I1 : Inv X pins σ (upd H s.heap.objs.size (.tup [x, y])) { s with heap := h' } :=
        I.turnedNew (t' := s.toks) (ch := [z, TI, TO, i1, i2]) (fun c o hb e => hk c o (fun q' => hb (by simp [q'])) (fun q' => hb (by simp [q'])) (fun q' => hb (by simp [q'])) (fun q' => hb (by simp [q'])) e) hf (Nat.le_refl _) new
      have s1 : Same H (upd H s.heap.objs.size (.tup [x, y])) := same_new Tn
      obtain ⟨_, itD, nD', rD, lD, eD⟩ := I1.lstM (s1 _ _ hD)
      refine ⟨_, _, eD, by rw [List.size_toArray, ← lD, List.length_map]; exact hl, ?_⟩
      have I2 := I1.lset (t' := s.toks) (f := (·.push (.ref s.heap.objs.size))) (its' := itD ++ [.ref s.heap.objs.size]) (s1 _ _ hD) eD (by simp) (ys := (Ts ++ [s.heap.objs.size]).map V.ref) (by rw [List.map_append]; exact rD.append (.cons rfl .nil)) (by rw [List.length_map, List.length_append, sizeLine_eq]; show _ + 1 ≤ _; omega)
      have sb : SameB D H (upd (upd H s.heap.objs.size (.tup [x, y])) D (.lst ((Ts ++ [s.heap.objs.size]).map V.ref))) := fun c o n e => by rw [upd_ne n]; exact s1 _ _ e
      have hlt : ∀ c ∈ [z, TI, TO, i1, i2], c ≠ s.heap.objs.size := fun c hc => by
        have e' : c = z ∨ c = TI ∨ c = TO ∨ c = i1 ∨ c = i2 := by simpa using hc
        rcases e' with e | e | e | e | e
        · rw [e]
          rcases hz with ⟨hz, _⟩ | ⟨_, _, _, hz, _⟩
          · exact Nat.ne_of_lt (Heap.lt_size hz)
          · exact Nat.ne_of_lt (Heap.lt_size hz)
        · rw [e]; exact Nat.ne_of_lt (Heap.lt_size hTI)
        · rw [e]; exact Nat.ne_of_lt hTOl
        · rw [e]; obtain ⟨_, e1, _⟩ := h1; exact Nat.ne_of_lt (Heap.lt_size e1)
        · rw [e]; obtain ⟨_, e1, _⟩ := h2; exact Nat.ne_of_lt (Heap.lt_size e1)
      have away : ∀ c ∈ [z, TI, TO, i1, i2], ∀ o, h'.get? c = some o → (h'.update D (Obj.mapSeq (·.push (.ref s.heap.objs.size)))).get? c = some o := fun c hc o e => (Heap.get?_update_other _ _ (fun e' => nD (by rw [e']; exact hc))).trans e
      refine zip_drain hh za nD na nb hs k (i + 1) _ _ (Ts ++ [s.heap.objs.size]) (by omega) I2 (fun c hc => ⟨?_, (hf c hc).2⟩) ⟨away _ (by simp) _ (hk _ _ za.TIz za.TITO za.TIi1 za.TIi2 hTI), h1'.at fun o e => away _ (by simp) o e, h2'.at fun o e => away _ (by simp) o e, ?_, .inr ⟨us, f, ?_⟩⟩ (keep_l sb na hqx) (keep_l sb nb hqy) upd_same (by rw [List.length_append, hl]; rfl) ?_ fun s' H' Ts' I' sb' hD' hl' hp' => q s' H' Ts' I' (sb.trans sb') hD' hl' hp'
      · rw [upd_ne (fun e => nD (by rw [← e]; exact hc)), upd_ne (hlt c hc)]
        exact (hf c hc).1
      · rw [Heap.size_update, hsz]; exact Nat.lt_succ_of_lt hTOl
      · rcases hfo with rfl | ⟨vs, hvs⟩
        · exact ⟨_, away _ (by simp) _ hzh, by rw [upd_ne TD]; exact upd_same⟩
        · exact ⟨vs, away _ (by simp) _ hzh, sb _ _ (ne_of hvs hD (by intro z; cases z)) hvs⟩
      · intro j T x' y' hj hx' hy'
        by_cases c : j < i
        · rw [List.getElem?_append_left (by omega)] at hj
          have := hp j T x' y' hj hx' hy'
          exact sb _ _ (ne_of this hD (by intro z; cases z)) this
        · have hj2 := (List.getElem?_eq_some_iff.mp hj).1
          rw [List.length_append, hl] at hj2
          have ej : j = i := by
            have : j < i + 1 := hj2
            omega
          subst ej
          rw [← hl, List.getElem?_concat_length] at hj
          cases hj
          rw [hx] at hx'; cases hx'
          rw [hy] at hy'; cases hy'
          rw [upd_ne TD]; exact upd_same
    rcases hz with ⟨hz, v1, v2, hTO⟩ | ⟨T, f, us, hz, hT⟩
    · refine wpAny_pyNext_zip_item za hz hTI hTO h1 h2 p.isList p2.isList (x := u) (y := u2) (by simpa using hu) (by simpa using hu2) fun h' z' TO' h1' h2' hT hsz hk => ?_
      obtain ⟨acc, n, eD, ha, hc⟩ := step h' false _ hk z' (.inl rfl) hsz h1' h2' hT
      show wpAny _ A.in1 (updateSeq D (·.push (.ref s.heap.objs.size)) >>= _) _ _ _
      refine wpAny_bind (wpAny_updateSeq eD rfl (wpAny_pure ⟨plainId_quiet F.plain_extend_loop _, hc⟩) (by rw [ha, sizeLine_eq]; omega) (by show (acc.push _).size ≤ sizeLine + 1; rw [Array.size_push, ha, sizeLine_eq]; omega))
    · obtain ⟨_, _, _, oT, hoT, _⟩ := I.hok T _ hT
      refine wpAny_pyNext_zip_item_held za hz hoT hTI h1 h2 p.isList p2.isList (x := u) (y := u2) (by simpa using hu) (by simpa using hu2) fun h' z' h1' h2' hT2 hsz hk => ?_
      obtain ⟨acc, n, eD, ha, hc⟩ := step h' true _ (fun c o c1 _ c3 c4 => hk c o c1 c3 c4) z' (.inr ⟨_, hT⟩) hsz h1' h2' hT2
      show wpAny _ A.in1 (updateSeq D (·.push (.ref s.heap.objs.size)) >>= _) _ _ _
      refine wpAny_bind (wpAny_updateSeq eD rfl (wpAny_pure ⟨plainId_quiet F.plain_extend_loop _, hc⟩) (by rw [ha, sizeLine_eq]; omega) (by show (acc.push _).size ≤ sizeLine + 1; rw [Array.size_push, ha, sizeLine_eq]; omega))
end
end Fb

set_option Elab.async false
set_option linter.all false
set_option maxRecDepth 100000
set_option maxHeartbeats 4000000
namespace Fb
open PySem PySem.Spec PyProof.Rows L2
theorem nl {X : Cx} {pins : List (Addr × Obj)} {σ : L2.St} {H : Hp} {s : Shared} {xs : List V} (I : Inv X pins σ H s) (h : SqL X.K H s.heap.objs.size xs) {P : Prop} (_ : s = s) : P := by
  obtain ⟨_, _, p, _⟩ := I.list h
  exact absurd p.lt (Nat.lt_irrefl _)
section
variable {X : Cx} {pins : List (Addr × Obj)} {σ : L2.St} {z TI TO i1 i2 a b : Addr} {xs ys : List V} {s : Shared} {H : Hp} {Q : VK}
theorem call_list_zip (hc : X.A.handled = none) (za : ZipApart z TI TO i1 i2 a b) (hs : min xs.length ys.length ≤ 1000) (I : Inv X pins σ H s) (hf : ∀ c ∈ [z, TI, TO, i1, i2], FpOk X pins H c) (hlt : ∀ c ∈ [z, TI, TO, i1, i2], c < s.heap.objs.size)
    (hz : IsZip s.heap z TI TO .none) (hTI : IsPair s.heap TI (.ref i1) (.ref i2)) (hTO : ∃ u v, IsPair s.heap TO u v) (h1 : s.heap.IsListIter i1 a 0) (h2 : s.heap.IsListIter i2 b 0) (hqx : SqL X.K H a xs) (hqy : SqL X.K H b ys)
    (q : ∀ (D : Addr) (H' : Hp) (Ts : List Addr), H D = none → Same H H' → H' D = some (.lst (Ts.map V.ref)) → Ts.length = min xs.length ys.length → PairsAt H' Ts xs ys → Q (.ref D) H') :
    wpAny (model X.prog X.w) X.A (call (.type "list") [.ref z]) (EP X pins σ Q) X.xe s := by
  refine callType_codes (Q₁ := fun obj s₁ => obj = .ref s.heap.objs.size ∧ s₁ = { s with heap := s.heap.push { cls := .type "list", data := .seq #[] } }) F.called_list (F.typeCall_list_1 _) F.entry_list_init
    (code_list_new _ ⟨rfl, rfl⟩) fun obj s₁ h₁ => ?_
  obtain ⟨rfl, rfl⟩ := h₁
  have hD : H s.heap.objs.size = none := I.hok.fresh (Nat.le_refl _)
  have hS : (s.heap.push { cls := .type "list", data := .seq #[] }).get? s.heap.objs.size = some { cls := .type "list", data := .seq #[] } := Heap.get?_push_size _ rfl
  have I1 : Inv X pins σ (upd H s.heap.objs.size (.lst [])) { s with heap := s.heap.push { cls := .type "list", data := .seq #[] } } := I.lnew (its := []) .nil (by simp)
  have sz : s.heap.objs.size ≠ z := Nat.ne_of_gt (hlt z (by simp))
  refine ⟨⟨_, hS, rfl⟩, F.args_list_init_2 _ _, ?_⟩
  show wpAny _ X.A.in1.in1 (do let old ← Builtin.List.listItems (.ref s.heap.objs.size); Builtin.List.listUpdate (.ref s.heap.objs.size) (fun _ => #[]); letGo old.toList.reverse; Builtin.List.listExtendWith (.ref s.heap.objs.size) (.ref z) .none) _ _ _
  refine wpAny_bind ?_
  unfold Builtin.List.listItems
  refine wpAny_bind (wpAny_seqItems hS rfl (wpAny_pure ?_))
  show wpAny _ X.A.in1.in1 (updateSeq s.heap.objs.size (fun _ => #[]) >>= fun _ => letGo (#[] : Array Value).toList.reverse >>= fun _ => Builtin.List.listExtendWith (.ref s.heap.objs.size) (.ref z) .none) _ _ _
  refine wpAny_bind (wpAny_updateSeq hS rfl ?_)
  have I2 := I1.lset (t' := s.toks) (its := []) (its' := []) (f := fun _ => #[]) upd_same hS (by simp) (ys := []) .nil (by simp)
  have e2 : upd (upd H s.heap.objs.size (.lst [])) s.heap.objs.size (.lst []) = upd H s.heap.objs.size (.lst []) := by
    funext c
    by_cases e : c = s.heap.objs.size
    · rw [e, upd_same, upd_same]
    · rw [upd_ne e]
  rw [e2] at I2
  have k2 : ∀ b o, s.heap.get? b = some o → ((s.heap.push { cls := .type "list", data := .seq #[] }).update s.heap.objs.size (Obj.mapSeq (fun _ => (#[] : Array Value)))).get? b = some o := fun b o e =>
    (Heap.get?_update_other _ _ (Ne.symm (Nat.ne_of_lt (Heap.lt_size e)))).trans (Heap.get?_push_of_some _ e)
  refine wpAny_bind (wpAny_letGo ?_)
  unfold Builtin.List.listExtendWith
  have hz2 := k2 _ _ hz
  refine wpAny_bind (wpAny_typeOf (T := "zip") ⟨_, hz2, rfl⟩ ?_)
  have e1 : Builtin.List.listSameRef (.ref s.heap.objs.size) (.ref z) = false := by simp [Builtin.List.listSameRef, sz]
  have e3 : (Value.type "zip" == Value.type "list") = false := by decide
  have e4 : (Value.type "zip" == Value.type "tuple") = false := by decide
  simp only [e1, e3, e4, Bool.or_false, Bool.false_eq_true, if_false]
  refine wpAny_bind (wpAny_pyIter_zip hz2 (wpAny_bind (wpAny_holding ?_)))
  unfold Builtin.List.listLengthHint
  refine wpAny_bind (wpAny_specialOf (T := "zip") ⟨_, hz2, rfl⟩ zip_no_len ?_)
  show wpAny _ X.A.in1.in1 (specialOf (Value.ref z) (Str.ofString "__length_hint__") >>= _) _ _ _
  refine wpAny_bind (wpAny_specialOf (T := "zip") ⟨_, hz2, rfl⟩ zip_no_hint ?_)
  refine wpAny_pure ?_
  show wpAny _ X.A.in1.in1 (rule "list.extend.makes-room" >>= fun _ => Builtin.List.listTouch (.ref s.heap.objs.size) >>= fun _ =>
    PySem.again (.builtin "list.extend.loop" ⟨[.ref s.heap.objs.size, .ref z, .none], []⟩)) _ _ _
  refine wpAny_bind (wpAny_rule (wpAny_bind ?_))
  show wpAny _ X.A.in1.in1 (updateSeq s.heap.objs.size (·.push .none) >>= fun _ => updateSeq s.heap.objs.size (·.pop)) _ _ _
  have hS2 := Heap.get?_update_self (Obj.mapSeq (fun _ => (#[] : Array Value))) hS rfl
  refine wpAny_bind (wpAny_updateSeq hS2 rfl ?_)
  have I3 := I2.lset (t' := s.toks) (its := []) (its' := [.none]) (f := (·.push Value.none)) upd_same hS2 (by simp) (ys := [.non]) (.cons rfl .nil) (by show 1 ≤ sizeLine; rw [sizeLine_eq]; decide)
  rw [L2.upd_upd] at I3
  have hS3 := Heap.get?_update_self (Obj.mapSeq (·.push Value.none)) hS2 rfl
  refine wpAny_updateSeq (hz := by seq_fits) hS3 rfl ?_
  have I4 := I3.lset (t' := s.toks) (its := [.none]) (its' := []) (f := (·.pop)) upd_same hS3 (by simp) (ys := []) .nil (by simp)
  rw [L2.upd_upd] at I4
  have hS4 := Heap.get?_update_self (Obj.mapSeq (·.pop)) hS3 rfl
  have k4 : ∀ b o, s.heap.get? b = some o → ((((s.heap.push { cls := .type "list", data := .seq #[] }).update s.heap.objs.size (Obj.mapSeq (fun _ => (#[] : Array Value)))).update s.heap.objs.size (Obj.mapSeq (·.push Value.none))).update s.heap.objs.size (Obj.mapSeq (·.pop))).get? b = some o := fun b o e =>
    have n : s.heap.objs.size ≠ b := Ne.symm (Nat.ne_of_lt (Heap.lt_size e))
    (Heap.get?_update_other _ _ n).trans ((Heap.get?_update_other _ _ n).trans (k2 b o e))
  have nD : s.heap.objs.size ∉ [z, TI, TO, i1, i2] := fun h => absurd (hlt _ h) (Nat.lt_irrefl _)
  have sD : Same H (upd H s.heap.objs.size (.lst [])) := same_new hD
  obtain ⟨u, v, hTO⟩ := hTO
  refine wpAny_pure ⟨plainId_quiet F.plain_extend_loop _, ?_⟩
  refine zip_drain (X := X) (pins := pins) (σ := σ) (by exact hc) za nD (fun e => ?_) (fun e => ?_) hs _ 0 _ _ [] (Nat.zero_add _).symm I4 (fun c h => ⟨?_, (hf c h).2⟩) ⟨k4 _ _ hTI, h1.at fun o e => k4 _ o e, h2.at fun o e => k4 _ o e, ?_, .inl ⟨k4 _ _ hz, u, v, k4 _ _ hTO⟩⟩ (sD.seq hqx) (sD.seq hqy) upd_same rfl (fun j T x y h => by simp at h) fun s' H' Ts' I' sb hD' hl hp => ?_
  · rw [e] at hqx; exact nl (s := s) I hqx rfl
  · rw [e] at hqy; exact nl (s := s) I hqy rfl
  · rw [upd_ne (fun e => nD (by rw [← e]; exact h))]
    exact (hf c h).1
  · rw [Heap.size_update, Heap.size_update, Heap.size_update, Heap.size_push]
    exact Nat.lt_succ_of_lt (hlt TO (by simp))
  · refine ⟨rfl, .ref s.heap.objs.size, H', I', rfl, q _ H' Ts' hD (fun c o e => sb _ _ (ne_of_none e hD) (sD _ _ e)) hD' hl hp⟩
/-- list(zip(a, b)) -/
def tListZip (K : PySem.W.Frag) (ta : TA) : TE := fun σ H Q => ta σ H fun vs H1 => ∃ (a b : Addr) (xs ys : List V), vs = [.ref a, .ref b] ∧ SqL K H1 a xs ∧ SqL K H1 b ys ∧ min xs.length ys.length ≤ 1000 ∧
  ∀ (D : Addr) (H' : Hp) (Ts : List Addr), H1 D = none → Same H1 H' → H' D = some (.lst (Ts.map V.ref)) → Ts.length = min xs.length ys.length → PairsAt H' Ts xs ys → Q (.ref D) H'
theorem pe_listZip {e e2 : Expr} {ta : TA} {p p2 q pos : Pos} (hc : X.calm = true) (hg : Gl X "list") (hm : X.mg "list" = none) (hg2 : Gl X "zip") (hm2 : X.mg "zip" = none) (ha : PA X [e, e2] ta)
    (na : starEach [.Call (.Name "zip" p2) [e, e2] [] q] X.env = (false, eval (.Call (.Name "zip" p2) [e, e2] [] q) X.env) :: starEach [] X.env := by rfl)
    (hs : starEach [e, e2] X.env = (false, eval e X.env) :: starEach [e2] X.env := by rfl) (hpl : (backTo q (starEach [e2] X.env)).any (·.1) = false := by rfl) :
    PE X (.Call (.Name "list" p) [.Call (.Name "zip" p2) [e, e2] [] q] [] pos) (tListZip X.K ta) := by
  refine ⟨fun pins s σ H Q I h => ?_⟩
  refine Call_ (ld_blt I hg hm boot_list (callWith_type1 (args_cons ?_ na) na rfl))
  refine Call_ (ld_blt I hg2 hm2 boot_zip (callWith_type1 (thn (ha.run q pins s σ H _ I h) fun us s1 ⟨vs, H1, I1, r1, q1⟩ => ?_) hs hpl))
  obtain ⟨a, b, xs, ys, rfl, hqx, hqy, hle, q1⟩ := q1
  obtain ⟨its, rv, p1, _⟩ := I1.list hqx
  obtain ⟨its2, rv2, p2', _⟩ := I1.list hqy
  cases r1 with
  | cons r rr =>
    cases rr with
    | cons r' rr =>
      cases rr
      cases r
      cases r'
      refine call_zip_2 p1.isList p2'.isList fun h' hz hTI hTO h1 h2 hsz hk => args_nil ?_
      have I2 : Inv X pins σ H1 { s1 with heap := h' } := I1.kept (t' := s1.toks) hk
      have ge : ∀ c ∈ [s1.heap.objs.size + 4, s1.heap.objs.size + 2, s1.heap.objs.size + 3, s1.heap.objs.size, s1.heap.objs.size + 1], s1.heap.objs.size ≤ c ∧ c < s1.heap.objs.size + 5 := fun c hc => by
        have e' : c = s1.heap.objs.size + 4 ∨ c = s1.heap.objs.size + 2 ∨ c = s1.heap.objs.size + 3 ∨ c = s1.heap.objs.size ∨ c = s1.heap.objs.size + 1 := by simpa using hc
        have goal : ∀ n : Nat, n + 4 = c ∨ n + 2 = c ∨ n + 3 = c ∨ n = c ∨ n + 1 = c → n ≤ c ∧ c < n + 5 := fun n h => by
          have : ∀ c : Nat, n + 4 = c ∨ n + 2 = c ∨ n + 3 = c ∨ n = c ∨ n + 1 = c → n ≤ c ∧ c < n + 5 := fun c h => by omega
          exact this c h
        refine goal _ ?_
        rcases e' with e | e | e | e | e <;> rw [e] <;> simp
      exact call_list_zip (I1.ok.hd hc) (PySem.W.ktu_apart s1.heap.objs.size a b p1.lt p2'.lt) hle I2 (fun c hc => I1.fpOk (ge c hc).1 (I1.hok.fresh (ge c hc).1)) (fun c hc => by rw [hsz]; exact (ge c hc).2) hz hTI ⟨_, _, hTO⟩ h1 h2 hqx hqy q1
end
end Fb

namespace Fb
open PySem PySem.Spec PyProof.Rows L2
section
variable {K : PySem.W.Frag} {te : TE} {g : TG} {vs : List Nat} {σ : L2.St} {H1 : Hp} {D : Addr} {Qd : Hp → Prop}
/-- a comprehension over a list, its name any target -/
theorem lc_listG {a : Addr} {xs : List V} (R : Nat → V → Hp → Prop) (hR : ∀ i v H H', SameB D H H' → R i v H → R i v H') (hD : H1 D = none) (hx : SqL K H1 a xs) (hn : xs.length ≤ 100000) (hk : MonoG g)
    (hs : ∀ i x H acc, xs[i]? = some x → Same H1 H → H D = some (.lst acc) → ∀ Q : VK, (∀ v H', Same H H' → R i v H' → Q v H') → g x (wipe σ vs) H fun σ2 H2 => wipe σ2 vs = wipe σ vs ∧ te σ2 H2 Q)
    (hd : ∀ H ys, Same H1 H → H D = some (.lst ys) → ys.length = xs.length → (∀ i v, ys[i]? = some v → R i v H) → Qd H) :
    ∃ W : Nat → Nat → Hp → Prop, (∃ m, W 0 m (upd H1 D (.lst []))) ∧ ∀ i m H, W i m H →
      ((Itl K a).stop i H ∧ Qd H) ∨ ((Itl K a).go i H ∧ ∃ Nx : Hp → Prop, (∀ H', Nx H' → ∃ m', m' < m ∧ W (i + 1) m' H') ∧ ∀ x H', (Itl K a).yld i H x H' → g x (wipe σ vs) H' fun σ2 H2 => wipe σ2 vs = wipe σ vs ∧ tYes σ2 H2 fun b H3 =>
        if b = true then te σ2 H3 fun y H4 => ∃ acc, H4 D = some (.lst acc) ∧ acc.length < sizeLine ∧ Nx (upd H4 D (.lst (acc ++ [y]))) else Nx H3) := by
  refine lc_list (K := K) (a := a) (xs := xs) (fun i H => ∃ ys, Same H1 H ∧ H D = some (.lst ys) ∧ ys.length = i ∧ ∀ k v, ys[k]? = some v → R k v H) ⟨[], same_new hD, upd_same, rfl, fun k v e => by simp at e⟩ (fun i H _ ⟨_, s1, _⟩ => s1.seq hx) ?_ ?_
  · rintro i x H hi ⟨ys, s1, hDl, hl, hr⟩
    have hil := (List.getElem?_eq_some_iff.mp hi).1
    refine hk.to _ _ _ _ _ (fun σ2 H2 h => ⟨h.1, yes_go h.2⟩) (hs i x H ys hi s1 hDl _ fun v H' s2 r => ⟨ys, s2 _ _ hDl, szlt (by omega), ys ++ [v], same_mut (Same.trans s1 s2) hD, upd_same, by rw [List.length_append]; simp [hl], lc_step hR hl s2 hr r⟩)
  · rintro H ⟨ys, s1, hDl, hl, hr⟩
    exact hd H ys s1 hDl hl hr
end
theorem atI_neg1 {xs : List V} (h : 0 < xs.length) : atI xs (-1) = xs[xs.length - 1]? := by
  unfold atI ixN
  rw [if_neg (by omega : ¬ (0 : Int) ≤ -1), if_pos (by omega)]
  show xs[_]? = _
  congr 1
  omega
end Fb

/-! ### min(found, default=None), found a list of tuples of ints -/
namespace Fb
open PySem PySem.Spec PyProof.Rows L2 PySem.W
def minT (y : List Int) (ys : List (List Int)) : List Int := (minOf (Tup.mk y) (ys.map Tup.mk)).items
abbrev IsTi (H : Hp) (t : Addr) (p : List Int) : Prop := H t = some (.tup (p.map V.int))
def rMinT (K : PySem.W.Frag) : List V → List V → Hp → VK → Prop := fun vs zs H Q => ∃ (l : Addr) (ts : List Addr) (ps : List (List Int)), vs = [.ref l] ∧ zs = [.non] ∧ SqL K H l (ts.map V.ref) ∧ Paired (IsTi H) ts ps ∧ (ps = [] → Q .non H) ∧
  ∀ (i : Nat) t y ys, ps = y :: ys → ts[i]? = some t → ps[i]? = some (minT y ys) → Q (.ref t) H
theorem hold_ints {h : Heap} : ∀ {p : List Int} {its : List Value}, Vals (p.map V.int) its → HoldAll h its p
  | [], _, .nil => .nil
  | n :: p, _, .cons r t => by
    obtain ⟨k, rfl⟩ := r
    exact .cons (holds_int n k) (hold_ints t)
section
variable {X : Cx} {pins : List (Addr × Obj)} {σ : L2.St} {H : Hp} {s : Shared}
theorem hold_tup (I : Inv X pins σ H s) {t : Addr} {p : List Int} (h : IsTi H t p) : PySem.W.Holds s.heap (.ref t) (Tup.mk p) := by
  obtain ⟨_, its, r, o⟩ := I.hok t _ h
  exact holds_tup o (by simpa using hold_ints r)
theorem hold_tups (I : Inv X pins σ H s) : ∀ {ts : List Addr} {ps : List (List Int)} {its : List Value}, Paired (IsTi H) ts ps → Vals (ts.map V.ref) its → HoldAll s.heap its (ps.map Tup.mk)
  | _, _, _, .nil, .nil => .nil
  | _, _, _, .cons h t, .cons r u => by
    cases r
    exact .cons (hold_tup I h) (hold_tups I t u)
theorem tup_inj {a b : Tup Int} (h : Datum.toD a = Datum.toD b) : a = b := by
  have := Datum.eqv a b
  rw [h, Datum.eqv, decide_eq_true rfl] at this
  exact (of_decide_eq_true this.symm)
theorem holds_uniq {h : Heap} {v : Value} {a b : Tup Int} (x : PySem.W.Holds h v a) (y : PySem.W.Holds h v b) : a = b := by
  obtain ⟨as, x⟩ := x
  obtain ⟨bs, y⟩ := y
  exact tup_inj (reads_det (fun _ _ e _ => e) x y).1.symm
theorem cr_minT (hc : X.calm = true) (hu : X.A.units + 64 < cLine) : CallRK X (.builtin "min") [Str.ofString "default"] (rMinT X.K) := by
  intro pins s σ H xs zs us ws Q I rx rz h
  obtain ⟨l, ts, ps, rfl, rfl, hq, hp, q0, q1⟩ := h
  obtain ⟨u, rfl, ru⟩ := rx.one
  cases ru
  obtain ⟨d, rfl, rd⟩ := rz.one
  obtain rfl : d = .none := rd
  obtain ⟨its, rv, pl, hz⟩ := I.list hq
  refine min_list_datum_default (α := Tup Int) (xs := ps.map Tup.mk) (I.ok.hd hc) pl.isList (by simpa using hold_tups I hp rv) (by show X.A.units + 1 + 1 < cLine; omega) (fun e h' tk hk => ?_) fun y ys i v h' tk e hv hh hk => ?_
  · exact ⟨.non, H, I.kept (t' := tk) hk, rfl, q0 (List.map_eq_nil_iff.mp e)⟩
  · have hl := rv.length
    have il : i < its.length := by
      have := (Array.getElem?_eq_some_iff.mp hv).1
      simpa using this
    rw [List.length_map] at hl
    have ht : ts[i]? = some ts[i] := List.getElem?_eq_getElem (by omega)
    obtain ⟨w, hw, rw2⟩ := rv.get (i := i) (x := .ref ts[i]) (by rw [List.getElem?_map, ht]; rfl)
    have ev : w = v := by
      have : its.toArray[i]? = some w := by simpa using hw
      rw [hv] at this
      exact (Option.some.inj this).symm
    subst ev
    obtain rfl : w = .ref ts[i] := rw2
    cases ps with
    | nil => cases e
    | cons p0 pr =>
      rw [List.map_cons] at e
      injection e with e1 e2
      subst e1; subst e2
      obtain ⟨pi, hpi, hti⟩ := paired_at hp ht
      have h1 := PySem.W.Holds.keeps hk (hold_tup I hti)
      have em := holds_uniq h1 hh
      refine ⟨.ref ts[i], H, I.kept (t' := tk) hk, rfl, q1 i _ p0 pr rfl ht ?_⟩
      rw [hpi, ← show (Tup.mk pi).items = minT p0 pr from by rw [em]; rfl]
end
end Fb

namespace Fb
open PySem PySem.Spec PyProof.Rows L2
/-- a loop over whole numbers with a step -/
theorem for_rangeC {lo c : Int} {n : Nat} {g : TG} {tb : TS} {D : Ends} {σ : L2.St} {H : Hp} (Pv : Nat → L2.St → Hp → Prop) (h0 : Pv 0 σ H)
    (hs : ∀ i σ H, i < n → Pv i σ H → g (.int (lo + (i : Int) * c)) σ H fun σ2 H2 => tb { D with nx := Pv (i + 1), ct := Pv (i + 1), bk := D.nx } σ2 H2) (hd : ∀ σ H, Pv n σ H → D.nx σ H) :
    ∃ W : Nat → Nat → L2.St → Hp → Prop, (∃ m, W 0 m σ H) ∧ ∀ i m σ H, W i m σ H →
      ((Itc lo c n).stop i H ∧ D.nx σ H) ∨ ((Itc lo c n).go i H ∧ ∃ N : L2.St → Hp → Prop, (∀ σ' H', N σ' H' → ∃ m', m' < m ∧ W (i + 1) m' σ' H') ∧ ∀ x H', (Itc lo c n).yld i H x H' → g x σ H' fun σ2 H2 => tb { D with nx := N, ct := N, bk := D.nx } σ2 H2) :=
  for_it walk_rangeC Pv h0 (fun _ _ _ _ _ => trivial) (fun i x σ H H' hi p y => by
    obtain ⟨rfl, rfl⟩ := y
    exact hs i σ _ hi p) hd
end Fb

namespace Fb
open PySem PySem.Spec PyProof.Rows L2
/-- the least tuple begins with the least first item -/
theorem lt_head {a b : Int} {as bs : List Int} : (PySem.W.listLt (a :: as) (b :: bs) = true → a ≤ b) ∧ (PySem.W.listLt (a :: as) (b :: bs) = false → b ≤ a) := by
  unfold PySem.W.listLt
  by_cases h : a = b
  · rw [if_pos h]; exact ⟨fun _ => by omega, fun _ => by omega⟩
  · rw [if_neg h]
    show (decide (a < b) = true → _) ∧ (decide (a < b) = false → _)
    refine ⟨fun h => ?_, fun h => ?_⟩
    · have := of_decide_eq_true h; omega
    · have := of_decide_eq_false h; omega
theorem minOf_head : ∀ (ys : List (List Int)) (y : List Int), y ≠ [] → (∀ z ∈ ys, z ≠ []) → (∀ z ∈ y :: ys, ((PySem.W.minOf (PySem.W.Tup.mk y) (ys.map PySem.W.Tup.mk)).items).headD 0 ≤ z.headD 0)
  | [], y, _, _ => fun z hz => by
    rw [List.mem_singleton.mp hz]; exact Int.le_refl _
  | x :: ys, y, h1, h2 => by
    have hx := h2 x List.mem_cons_self
    have h3 : ∀ z ∈ ys, z ≠ [] := fun z hz => h2 z (List.mem_cons_of_mem _ hz)
    intro z hz
    show ((PySem.W.minOf (if PySem.W.DatumOrd.lt (PySem.W.Tup.mk x) (PySem.W.Tup.mk y) = true then PySem.W.Tup.mk x else PySem.W.Tup.mk y) (ys.map PySem.W.Tup.mk)).items).headD 0 ≤ _
    obtain ⟨a, as, rfl⟩ := List.exists_cons_of_ne_nil hx
    obtain ⟨b, bs, rfl⟩ := List.exists_cons_of_ne_nil h1
    have lh := lt_head (a := a) (b := b) (as := as) (bs := bs)
    cases e : PySem.W.listLt (a :: as) (b :: bs) with
    | true =>
      rw [if_pos (show PySem.W.DatumOrd.lt (PySem.W.Tup.mk (a :: as)) (PySem.W.Tup.mk (b :: bs)) = true from e)]
      have ih := minOf_head ys (a :: as) (by simp) h3
      rcases List.mem_cons.mp hz with rfl | hz
      · exact Int.le_trans (ih _ List.mem_cons_self) (lh.1 e)
      · exact ih _ hz
    | false =>
      rw [if_neg (show ¬ PySem.W.DatumOrd.lt (PySem.W.Tup.mk (a :: as)) (PySem.W.Tup.mk (b :: bs)) = true from by
        intro h
        have h' : PySem.W.listLt (a :: as) (b :: bs) = true := h
        rw [e] at h'; cases h')]
      have ih := minOf_head ys (b :: bs) (by simp) h3
      rcases List.mem_cons.mp hz with rfl | hz
      · exact ih _ List.mem_cons_self
      · rcases List.mem_cons.mp hz with rfl | hz
        · exact Int.le_trans (ih _ List.mem_cons_self) (lh.2 e)
        · exact ih _ (List.mem_cons_of_mem _ hz)
theorem minT_head {ys : List (List Int)} {y : List Int} (h1 : y ≠ []) (h2 : ∀ z ∈ ys, z ≠ []) : ∀ z ∈ y :: ys, (minT y ys).headD 0 ≤ z.headD 0 := minOf_head ys y h1 h2
end Fb

namespace Fb
open PySem PySem.Spec PyProof.Rows L2
/-! ### the cuts of a parting, and what it costs -/
/-- the k-th cut -/
def cn (ns : List Int) (k : Nat) : Int := ns.getD k 0
theorem cn_get {ns : List Int} {k : Nat} (h : k < ns.length) : ns[k]? = some (cn ns k) := by
  unfold cn
  rw [List.getD_eq_getElem?_getD, List.getElem?_eq_getElem h]; rfl
theorem cn_at {ns : List Int} {k : Nat} {j : Int} (h : k < ns.length) (e : j = (k : Int)) : atI (ns.map V.int) j = some (.int (cn ns k)) :=
  atI_of (by omega) (by rw [e, Int.toNat_natCast, List.getElem?_map, cn_get h]; rfl)
def Tells (ns : List Int) (m : Int) : Prop := 2 ≤ ns.length ∧ cn ns 0 = 0 ∧ cn ns (ns.length - 1) = m - 1 ∧ ∀ j, j + 1 < ns.length → cn ns j < cn ns (j + 1)
noncomputable def tellsB (ns : List Int) (m : Int) : Bool := @decide (Tells ns m) (Classical.propDecidable _)
theorem tells_iff {ns : List Int} {m : Int} : tellsB ns m = true ↔ Tells ns m := by
  unfold tellsB
  exact @decide_eq_true_iff _ (Classical.propDecidable _)
theorem tells_true {ns : List Int} {m : Int} (h : Tells ns m) : tellsB ns m = true := tells_iff.mpr h
theorem tells_false {ns : List Int} {m : Int} (h : ¬ Tells ns m) : tellsB ns m = false := by
  cases e : tellsB ns m with
  | false => rfl
  | true => exact absurd (tells_iff.mp e) h
/-- what each stretch of the parting costs, summed -/
def psum (P : Pri) (xs : List Str) (ns : List Int) : Nat → Int
  | 0 => 0
  | k + 1 => psum P xs ns k + (stp P xs (cn ns k).toNat (cn ns (k + 1)).toNat).getD 0
def AllHold (P : Pri) (xs : List Str) (ns : List Int) : Prop := ∀ j, j + 1 < ns.length → Holds P xs (cn ns j).toNat (cn ns (j + 1)).toNat
theorem Tells.mono {ns : List Int} {m : Int} (h : Tells ns m) : ∀ {i j : Nat}, i ≤ j → j < ns.length → cn ns i + ((j : Int) - (i : Int)) ≤ cn ns j := fun {i j} hij hj => by
  induction j with
  | zero => obtain rfl : i = 0 := by omega
            omega
  | succ j ih =>
    by_cases e : i = j + 1
    · subst e; omega
    · have h1 := ih (by omega) (by omega)
      have h2 := h.2.2.2 j hj
      omega
theorem Tells.ge {ns : List Int} {m : Int} (h : Tells ns m) {j : Nat} (hj : j < ns.length) : 0 ≤ cn ns j := by
  have := h.mono (i := 0) (Nat.zero_le j) hj
  rw [h.2.1] at this; omega
theorem Tells.le {ns : List Int} {m : Int} (h : Tells ns m) {j : Nat} (hj : j < ns.length) : cn ns j ≤ m - 1 := by
  have := h.mono (i := j) (j := ns.length - 1) (by omega) (by omega)
  rw [h.2.2.1] at this; omega
theorem ints_flat {ns : List Int} : ∀ v ∈ ns.map V.int, flat v := fun v hv => by
  obtain ⟨_, _, rfl⟩ := List.mem_map.mp hv
  exact .inr (.inr (.inl ⟨_, rfl⟩))
end Fb

namespace Fb
open PySem PySem.Spec PyProof.Rows L2
/-! ### the least tuple, one by one -/
theorem minT_one {y : List Int} : minT y [] = y := rfl
theorem minT_cons {y z : List Int} {ys : List (List Int)} : minT y (z :: ys) = minT (if PySem.W.listLt z y = true then z else y) ys := by
  show (PySem.W.minOf (if PySem.W.DatumOrd.lt (PySem.W.Tup.mk z) (PySem.W.Tup.mk y) = true then PySem.W.Tup.mk z else PySem.W.Tup.mk y) (ys.map PySem.W.Tup.mk)).items = _
  by_cases h : PySem.W.listLt z y = true
  · rw [if_pos h, if_pos (show PySem.W.DatumOrd.lt (PySem.W.Tup.mk z) (PySem.W.Tup.mk y) = true from h)]; rfl
  · rw [if_neg h, if_neg (show ¬ PySem.W.DatumOrd.lt (PySem.W.Tup.mk z) (PySem.W.Tup.mk y) = true from h)]; rfl
theorem minT_snoc : ∀ {ys : List (List Int)} {y z : List Int}, minT y (ys ++ [z]) = if PySem.W.listLt z (minT y ys) = true then z else minT y ys
  | [], y, z => by rw [List.nil_append, minT_cons, minT_one, minT_one]
  | x :: ys, y, z => by
    rw [List.cons_append, minT_cons, minT_cons]
    exact minT_snoc
theorem lt3 {a b c a' b' c' : Int} : PySem.W.listLt [a, b, c] [a', b', c'] = (if a ≠ a' then decide (a < a') else if b ≠ b' then decide (b < b') else decide (c < c')) := by
  unfold PySem.W.listLt
  by_cases h1 : a = a'
  · rw [if_pos h1, if_neg (fun n => n h1)]
    unfold PySem.W.listLt
    by_cases h2 : b = b'
    · rw [if_pos h2, if_neg (fun n => n h2)]
      unfold PySem.W.listLt
      by_cases h3 : c = c'
      · rw [if_pos h3]
        unfold PySem.W.listLt
        exact (decide_eq_false (by omega)).symm
      · rw [if_neg h3]; rfl
    · rw [if_neg h2, if_pos h2]; rfl
  · rw [if_neg h1, if_pos h1]; rfl
end Fb

namespace Fb
open PySem PySem.Spec PyProof.Rows L2
/-! ### an error that leaves a list's comprehension -/
/-- where an error of the comprehension's element may come from -/
def XB (X : Cx) (E : XK) (z : Shared) (H : Hp) (sc : Scope) (ce : Env) (fp : List Addr) : Value → Shared → Prop := fun e s' => ∃ pl σ' Hc zc, Inv (X.blk z H sc ce fp) pl σ' Hc zc ∧ L2N.CX X.prog X.w X.stack Hc zc E e s'
@[reducible] def blkX (X : Cx) (E : XK) (z : Shared) (H : Hp) (sc : Scope) (ce : Env) (fp : List Addr) : Cx := { X.blk z H sc ce fp with xe := XB X E z H sc ce fp }
section
variable {X : Cx} {E : XK} {z : Shared} {H : Hp} {sc : Scope} {ce : Env} {fp : List Addr}
theorem blk_ok (h : (blkX X E z H sc ce fp).Ok) : (X.blk z H sc ce fp).Ok := ⟨h.mod, h.kind, h.glob, h.blt, h.above, h.inj, h.has, h.cab, h.hd, h.frames, h.stk, h.exf, h.bs, h.bsz, h.noex, h.exfs, h.funs, h.frf⟩
theorem ok_blk (h : (X.blk z H sc ce fp).Ok) : (blkX X E z H sc ce fp).Ok := ⟨h.mod, h.kind, h.glob, h.blt, h.above, h.inj, h.has, h.cab, h.hd, h.frames, h.stk, h.exf, h.bs, h.bsz, h.noex, h.exfs, h.funs, h.frf⟩
theorem blk_inv {pl : List (Addr × Obj)} {σ : L2.St} {H' : Hp} {s : Shared} (I : Inv (blkX X E z H sc ce fp) pl σ H' s) : Inv (X.blk z H sc ce fp) pl σ H' s := ⟨blk_ok I.ok, I.os, I.bare, I.base, I.loc, I.cell, I.free, I.freeC, I.pin, I.hok, I.len⟩
theorem inv_blk {pl : List (Addr × Obj)} {σ : L2.St} {H' : Hp} {s : Shared} (I : Inv (X.blk z H sc ce fp) pl σ H' s) : Inv (blkX X E z H sc ce fp) pl σ H' s := ⟨ok_blk I.ok, I.os, I.bare, I.base, I.loc, I.cell, I.free, I.freeC, I.pin, I.hok, I.len⟩
theorem passB (σ : L2.St) : PassesAt (L2N.CX (blkX X E z H sc ce fp).prog (blkX X E z H sc ce fp).w) (blkX X E z H sc ce fp) σ E := fun pins H s e s' I c => ⟨pins, σ, H, s, blk_inv I, c⟩
end
/-- one object in another's place -/
def repl (h : Heap) (C : Addr) (o : Obj) : Heap := { h with objs := h.objs.setIfInBounds C o }
theorem repl_ne {h : Heap} {C b : Addr} {o : Obj} (n : b ≠ C) : (repl h C o).get? b = h.get? b := by
  unfold Heap.get? repl
  dsimp only
  rw [Array.getElem?_setIfInBounds_ne (Ne.symm n)]
theorem repl_at {h g : Heap} {C : Addr} {o : Obj} (lt : C < h.objs.size) (e : g.objs[C]? = some o) : (repl h C o).get? C = g.get? C := by
  unfold Heap.get? repl
  dsimp only
  rw [Array.getElem?_setIfInBounds_self_of_lt lt, e]
theorem get_lt {h : Heap} {b : Addr} {o : Obj} (e : h.get? b = some o) : b < h.objs.size := Heap.lt_size e
theorem repl_in {h g : Heap} {C : Addr} {o u : Obj} (e : g.objs[C]? = some o) (hu : (repl h C o).get? C = some u) : g.get? C = some u := by
  by_cases lt : C < h.objs.size
  · rw [← repl_at lt e]; exact hu
  · have := get_lt hu
    unfold repl at this
    dsimp only at this
    rw [Array.size_setIfInBounds] at this
    exact absurd this lt
theorem frames_repl {h2 h3 B : Heap} {C : Addr} {o : Obj} (sb : ∀ b, b ≠ C → h3.get? b = h2.get? b) : ∀ (l : List Env), h2.FunFrames B l → C ∉ frs l → h3.FunFrames (repl B C o) l
  | [], _, _ => trivial
  | env :: rest, h, n => by
    obtain ⟨h1, ⟨L, ob, e1, e2, e3, e4⟩, h5⟩ := h
    have hL : L ∈ frs (env :: rest) := List.mem_filterMap.mpr ⟨env, List.mem_cons_self, e1⟩
    have nL : L ≠ C := fun z => n (z ▸ hL)
    refine ⟨h1, ⟨L, ob, e1, by rw [repl_ne nL]; exact e2, by rw [sb L nL]; exact e3, e4⟩, frames_repl sb rest h5 fun z => n ?_⟩
    obtain ⟨y, hy, ey⟩ := List.mem_filterMap.mp z
    exact List.mem_filterMap.mpr ⟨y, List.mem_cons_of_mem _ hy, ey⟩
theorem leave_lc {X : Cx} {E : XK} (tk : L2N.Takes X (fun c d _ H => E c d H)) (hst : X.stack = X.env :: X.outer) (hfr : X.env.frame = some X.env.locals) {pins : List (Addr × Obj)} {σ : L2.St} {z3 : Shared} {H3 : Hp} {sc : Scope} {fp : List Addr} {C : Addr} {ce : Env}
    (I3 : Inv X pins σ H3 z3) (ec : ce.locals = C) (cC : C = z3.heap.objs.size) (efr : ce.frame = X.env.frame)
    (f3 : ∀ b ∈ fp, (b ∈ X.ex ∨ X.s_0.heap.objs.size ≤ b) ∧ b ≠ X.env.locals ∧ (∀ (x : Str) (c : Addr), List.lookup x X.env.cells = some c → c ≠ b) ∧ ∀ (p : Addr × Obj), p ∈ X.pn ++ pins → p.fst ≠ b)
    {what : String} {e : Value} {s1 : Shared} {Q : Value → Shared → Prop} (h : XB X E z3 H3 sc ce fp e s1) :
    notedBy (model X.prog X.w) X.A ce (fun e s' => ∃ m, s'.heap.Ns C m ∧ ∀ h', Heap.SameBut C s'.heap h' → wpAny (model X.prog X.w) X.A (PySem.passOn what e ce) Q X.xe { s' with heap := h' }) e s1 := by
  obtain ⟨pl, σ', Hc, zc, Ib, a, B', H', cls, d, rfl, fly, hok, ub, ha, hos, hbare, we⟩ := h
  have IX : Inv X pins σ Hc zc := I3.call' (ch := fp) Ib.os Ib.base Ib.hok Ib.bare f3
  have nC : Hc C = none := by have y := Ib.free; rw [← ec]; exact y
  obtain ⟨a0, a1, a2, a3, a4, a5⟩ := I3.fpOk (Nat.le_of_eq cC.symm) (show Hc C = none from nC)
  have nF : C ∉ frs X.stack := fun z => (List.mem_cons.mp (I3.stkSub C z)).elim a1 a2
  obtain ⟨m, hns, _⟩ := Ib.loc
  have hns : zc.heap.Ns C m := by rw [← ec]; exact hns
  obtain ⟨oC, es, ep, gC, dC, k1, k2⟩ := hns
  have bC : B'.get? C = some oC := ub.keep C oC gC nC nF
  have aC : a ≠ C := fun z => by have := fly.2.1; rw [z, bC] at this; cases this
  obtain ⟨a', B, sI, pl2, σ2, H2, cls2, d2, e2, I2, sub, up, sky, ha2, os2, bare2, w2, w2C⟩ := L2N.XE.of_call (W := fun c d _ H => E c d H ∧ H C = none) (E := fun c d H => E c d H ∧ H C = none) IX (fun _ _ _ h => h) (u := .ref a) (s' := s1) ⟨a, B', H', cls, d, rfl, fly, hok, ub, ha, hos, hbare, we, ub.free C oC gC nC⟩
  cases e2
  have fly2 : HandSPX.FlyingZ B X.stack a (L2N.Zn cls2 d2) s1.heap := by
    obtain ⟨_, _, _, oe, vs, T, oT, ts, g1, z1, d1, v1, bT, nT, gT, dT, fl⟩ := id fly
    rcases sky with ⟨st, nb, ff, oe', vs', g', z', d', v'⟩ | f | ⟨st, nb, ff, oe', vs', T', oT', ts', g', z', d', v', bT', nT', gT', dT', fl'⟩
    · rw [g1] at g'; cases g'
      rw [d1] at d'; cases d'
      rw [v1] at v'; cases v'
    · exact f
    · rw [g1] at g'; cases g'
      rw [d1] at d'; cases d'
      rw [v1] at v'; cases v'
      rw [gT] at gT'; cases gT'
      rw [dT] at dT'; cases dT'
      rw [fl] at fl'; cases fl'
  have en : noteFrame (.ref a) ce = noteFrame (.ref a) X.env := by
    unfold noteFrame PySem.frameOf
    rw [efr]
  unfold notedBy
  rw [en]
  have g1C : s1.heap.get? C = some oC := fly.1 C oC bC
  rw [hst] at fly2
  refine PXN.looks_onZ L2N.Zn.steady (by rw [← hst]; exact I3.ok.frames) hfr fly2 fun h2 held up2 => ?_
  obtain ⟨sl, g2C⟩ := up2 C oC g1C fun vs z => by rw [dC] at z; cases z
  refine ⟨m, ⟨_, es, ep, g2C, dC, k1, k2⟩, fun h3 sb => ?_⟩
  have lt3 : C < h3.objs.size := by rw [sb.1]; exact get_lt g2C
  obtain ⟨o3, e3⟩ : ∃ o3, h3.objs[C]? = some o3 := ⟨_, Array.getElem?_eq_getElem lt3⟩
  obtain ⟨st, nb, ff, oe, vs, T, oT, ts, g1, z1, d1, v1, bT, nTa, gT, dT, fl⟩ := held
  have TC : T ≠ C := fun z => by
    rw [z, g2C] at gT
    cases gT
    have q : Data.dict es ep = Data.fields ts := dC.symm.trans dT
    cases q
  have st3 : (repl B C o3).StaysIn h3 := fun b o e => by
    by_cases c : b = C
    · subst c; exact repl_in e3 e
    · rw [repl_ne c] at e
      rw [sb.2 b c]
      exact st b o e
  have nFs : C ∉ frs (X.env :: X.outer) := by rw [← hst]; exact nF
  have held3 : HandSPX.HeldZ (repl B C o3) (X.env :: X.outer) a (L2N.Zn cls2 d2) X.env.locals h3 :=
    ⟨st3, by rw [repl_ne aC]; exact nb, frames_repl sb.2 _ ff nFs, oe, vs, T, oT, ts, by rw [sb.2 a aC]; exact g1, z1, d1, v1, by rw [repl_ne TC]; exact bT, nTa, by rw [sb.2 T TC]; exact gT, dT, fl⟩
  have pnC : ∀ (p : Addr × Obj), p ∈ X.pn ++ [] → p.fst ≠ C := fun p hp => a5 p (List.mem_append_left _ (by rw [List.append_nil] at hp; exact hp))
  have up3 : ∀ b, b ≠ C → ∀ o, sI.heap.get? b = some o → (∀ vs, o.data ≠ .fields vs) → ∃ sl, h3.get? b = some { cls := o.cls, dict := o.dict, data := o.data, slots := sl } := fun b nb o e nf => by
    obtain ⟨sl1, e1⟩ := up b o e nf
    obtain ⟨sl2, e2⟩ := up2 b _ e1 nf
    exact ⟨sl2, by rw [sb.2 b nb]; exact e2⟩
  obtain ⟨hI, J, subJ, upJ⟩ : ∃ hI, Inv X [] σ2 H2 { sI with heap := hI } ∧ (∀ b o, hI.get? b = some o → b ∉ frs X.stack → (repl B C o3).get? b = some o) ∧ hI.UpToSlots h3 := by
    have I2' : Inv X [] σ2 H2 sI := Inv.unpinned (pins := []) I2
    cases gI : sI.heap.get? C with
    | none =>
      refine ⟨sI.heap, I2', fun b o e nf => ?_, fun b o e nf => ?_⟩
      · have nb : b ≠ C := fun z => by rw [z, gI] at e; cases e
        rw [repl_ne nb]; exact sub b o e nf
      · have nb : b ≠ C := fun z => by rw [z, gI] at e; cases e
        exact up3 b nb o e nf
    | some oI =>
      have ltI := get_lt gI
      have ltB := get_lt (sub C oI gI nF)
      refine ⟨repl sI.heap C o3, I2'.turned (t' := sI.toks) (fun b o nb e => by rw [repl_ne nb]; exact e) w2C a1 a3 a4 pnC, fun b o e nf => ?_, fun b o e nf => ?_⟩
      · by_cases c : b = C
        · subst c
          rw [repl_at ltB e3]
          exact repl_in e3 e
        · rw [repl_ne c] at e ⊢
          exact sub b o e nf
      · by_cases c : b = C
        · subst c
          exact ⟨o.slots, repl_in e3 e⟩
        · rw [repl_ne c] at e
          exact up3 b c o e nf
  unfold PySem.passOn
  refine wpAny_bind (wpAny_field (by rw [sb.2 a aC]; exact g1) d1 v1 ?_)
  rw [show (Value.ref T == Value.none) = false from rfl, if_neg Bool.false_ne_true]
  refine wpAny_bind ?_
  rw [efr, hfr]
  refine HandSPX.setFlight_onZ held3 fun h5 held5 up5 => ?_
  refine wpAny_throw (tk _ _ ⟨a, repl B C o3, { sI with heap := hI }, [], σ2, H2, cls2, d2, rfl, J, subJ, fun b o e nf => ?_, ?_, ha2, os2, bare2, w2⟩)
  · obtain ⟨sl3, e3'⟩ := upJ b o e nf
    obtain ⟨sl5, e5⟩ := up5 b _ e3' nf
    exact ⟨sl5, e5⟩
  · rw [hst]
    exact .inr (.inr held5)
section
variable {X : Cx}
/-- a list's comprehension whose element may raise what the def lets pass -/
theorem pe_lcX {elt tg iter : Expr} {ifs : List Expr} {sc : Scope} {own : List (Str × Nat)} {pos : Pos} {wi : TI} {g : TG} {tt : TT} {te : TE} {E : XK} (tk : L2N.Takes X (fun c d _ H => E c d H)) (hst : X.stack = X.env :: X.outer) (hfr : X.env.frame = some X.env.locals) (hc : X.calm = true) (nd : X.N.Nodup) (hi : PI X tg iter wi) (ok : BlkOk X.N X.env.scope sc own)
    (nfree : ∀ y ∈ sc.names, y.2 ≠ .free) (hrel : relabel sc X.env = sc) (hclo : cloFrom X.env.cells sc.names [] = [])
    (hg : ∀ (z : Shared) (H : Hp) (C : Addr) (cl : List (Str × Addr)) (fp : List Addr), PG (blkX X E z H sc (compEnvC sc cl C X.env) fp) tg g)
    (ht : ∀ (z : Shared) (H : Hp) (C : Addr) (cl : List (Str × Addr)) (fp : List Addr), PTs (blkX X E z H sc (compEnvC sc cl C X.env) fp) ifs tt)
    (he : ∀ (z : Shared) (H : Hp) (C : Addr) (cl : List (Str × Addr)) (fp : List Addr), PE (blkX X E z H sc (compEnvC sc cl C X.env) fp) elt te)
    (hs : ∀ x, foldedSetIterable iter X.env x = pure x := by intro _; rfl) : PE X (.ListComp elt [⟨tg, iter, ifs, 0⟩] sc pos) (tLc wi g tt te (own.map (·.2))) := by
  refine ⟨fun pins z0 σ H Q I wish => ?_⟩
  refine wpAny_ListComp nfree ok.kind (fun y hy e => by rw [ok.uniq y hy, e]) (thn (hi.run pins z0 σ H _ I wish) fun xv z1 hx => thn hx fun itv z2 got => ?_) hs
  obtain ⟨it, fp, tn, J, H2, rfl, I2, T, t2, f2, q⟩ := got
  refine wpAny_newObj_type (newEnv_comp ?_) (Nat.zero_le _)
  generalize eD : z2.heap.objs.size = D
  have freeD : H2 D = none := I2.hok.fresh (Nat.le_of_eq eD)
  obtain ⟨W, ⟨m0, w0⟩, turn⟩ := q D freeD
  generalize e3 : ({ z2 with heap := z2.heap.push { cls := .type "list", data := .seq ([] : List Value).toArray } } : Shared) = z3
  have I3 : Inv X pins σ (upd H2 D (.lst [])) z3 := by
    rw [← e3]
    refine I2.laid (t' := z2.toks) (fun b o e => Heap.get?_push_of_some _ e) (Nat.le_of_eq eD) ⟨Nat.zero_le _, [], 0, .nil, ?_⟩
    rw [← eD]
    exact Heap.get?_push_size _ rfl
  have h3 : z3.heap = z2.heap.push { cls := .type "list", data := .seq ([] : List Value).toArray } := by rw [← e3]
  have below : ∀ c ∈ fp, c < z2.heap.objs.size := fun c hc => by
    obtain ⟨ob, e, _⟩ := T.obj _ _ t2 c hc
    exact Heap.lt_size e
  have f3 : ∀ c ∈ fp, FpOk X pins (upd H2 D (.lst [])) c ∧ c < z3.heap.objs.size := fun c hc => by
    have lt := below c hc
    refine ⟨⟨?_, (f2 c hc).2⟩, by rw [h3, Heap.size_push]; exact Nat.lt_succ_of_lt lt⟩
    rw [upd_ne (by rw [← eD]; exact Nat.ne_of_lt lt)]
    exact (f2 c hc).1
  have t3 : tn 0 z3.heap := T.keep _ _ _ t2 fun c _ o e => by rw [h3]; exact Heap.get?_push_of_some _ e
  have I4 := block_start I3 ok nd f3
  have pg := hg z3 (upd H2 D (.lst [])) z3.heap.objs.size (cellsFrom (z3.heap.objs.size + 1) sc.names (cloFrom X.env.cells sc.names [])) fp
  have pt := ht z3 (upd H2 D (.lst [])) z3.heap.objs.size (cellsFrom (z3.heap.objs.size + 1) sc.names (cloFrom X.env.cells sc.names [])) fp
  have pe := he z3 (upd H2 D (.lst [])) z3.heap.objs.size (cellsFrom (z3.heap.objs.size + 1) sc.names (cloFrom X.env.cells sc.names [])) fp
  have key : ∀ ce : Env, ce = compEnvC sc (cellsFrom (z3.heap.objs.size + 1) sc.names (cloFrom X.env.cells sc.names [])) z3.heap.objs.size X.env →
      codeAny (model X.prog X.w) X.A (.compStart (.ListComp elt [⟨tg, iter, ifs, 0⟩] sc pos) 0 (.ref it) (.ref D) ce)
        (fun r s' => ∃ m, s'.heap.Ns ce.locals m ∧ ∀ h', Heap.SameBut ce.locals s'.heap h' → match r with
          | .ok _ => EP X pins σ Q (.ref D) { s' with heap := h' }
          | .error x => wpAny (model X.prog X.w) X.A (PySem.passOn "comprehension.variables-let-go" x ce) (EP X pins σ Q) X.xe { s' with heap := h' })
        { z3 with heap := pushCells (z3.heap.push { cls := .type "dict", data := .dict #[] }) sc.names } := by
    intro ce ece
    rw [← ece] at I4 pg pt pe
    have cL : ce.locals = z3.heap.objs.size := by rw [ece]; rfl
    have cF : ce.frame = X.env.frame := by rw [ece]; rfl
    have none3 : ∀ c ∈ fp, (upd H2 D (.lst [])) c = none := fun c hc => (f3 c hc).1.1
    generalize eH : upd H2 D (.lst []) = H3 at I3 I4 pg pt pe w0 none3 f3
    generalize e4 : ({ z3 with heap := pushCells (z3.heap.push { cls := .type "dict", data := .dict #[] }) sc.names } : Shared) = z4 at I4 ⊢
    have t4 : tn 0 z4.heap := T.keep _ _ _ t3 fun c _ o e => by rw [← e4]; exact pushCells_keeps _ _ _ _ (Heap.get?_push_of_some _ e)
    have f3' : ∀ b ∈ fp, (b ∈ X.ex ∨ X.s_0.heap.objs.size ≤ b) ∧ b ≠ X.env.locals ∧ (∀ (x : Str) (c : Addr), List.lookup x X.env.cells = some c → c ≠ b) ∧ ∀ (p : Addr × Obj), p ∈ X.pn ++ pins → p.fst ≠ b := fun c hc => ⟨(f3 c hc).1.2.2.2.1, (f3 c hc).1.2.1, (f3 c hc).1.2.2.2.2.1, (f3 c hc).1.2.2.2.2.2⟩
    have stay : ∀ {σ' : L2.St} {H' : Hp} {z : Shared}, Inv (blkX X E z3 H3 sc ce fp) [] σ' H' z → (∀ c ∈ fp, H' c = none) → ∀ c ∈ fp, FpOk (blkX X E z3 H3 sc ce fp) [] H' c := fun {σ' H' z} I' hn c hc =>
      ⟨hn c hc, (I'.ok.exf c hc).1, I'.ok.exfs c hc, .inl hc, fun y a e => (I'.ok.exf c hc).2 y a e, fun r hr => nomatch (show r ∈ ([] : List (Addr × Obj)) from hr)⟩
    have out : ∀ (e : Value) (s' : Shared), XB X E z3 H3 sc ce fp e s' → notedBy (model X.prog X.w) X.A ce (fun e s' => ∃ m, s'.heap.Ns ce.locals m ∧ ∀ h', Heap.SameBut ce.locals s'.heap h' → wpAny (model X.prog X.w) X.A (PySem.passOn "comprehension.variables-let-go" e ce) (EP X pins σ Q) X.xe { s' with heap := h' }) e s' := fun e s' h =>
      leave_lc tk hst hfr I3 rfl cL cF f3' h
    refine codeAny_compStart_list ?_ (T.self X.A 0 _ _ _ t4 ?_)
    all_goals
      refine compLoop_any (fun k z => ∃ n H', Inv (blkX X E z3 H3 sc ce fp) [] (wipe σ (own.map (·.2))) H' z ∧ tn n z.heap ∧ (∀ c ∈ fp, H' c = none) ∧ W n k H') ?_ m0 ⟨0, H3, inv_blk I4, t4, none3, w0⟩
      rintro k z5 ⟨n, H5, I5, t5, none5, w5⟩
      rcases turn n k H5 w5 with ⟨stop, qq⟩ | ⟨go, Nx, dec, step⟩
      · refine thnF (T.done (blkX X E z3 H3 sc ce fp) rfl rfl rfl hc n [] z5 _ H5 (fun _ _ => False) I5 (stay I5 none5) t5 stop) fun r z6 got => ?_
        obtain ⟨rfl, I6⟩ := got
        have I7 : Inv X pins σ H5 z6 := I3.call' (ch := fp) I6.os I6.base I6.hok I6.bare f3'
        have nC : H5 z3.heap.objs.size = none := by
          have y : H5 ce.locals = none := I6.free
          rw [cL] at y
          exact y
        obtain ⟨m, hn, _⟩ := I6.loc
        have hn : z6.heap.Ns ce.locals m := hn
        obtain ⟨a0, a1, a2, a3, a4, a5⟩ := I3.fpOk (Nat.le_refl _) nC
        exact ⟨m, hn, fun h'' sb => ⟨.ref D, H5, I7.turned (t' := z6.toks) (fun b o nb e => (sb.2 b (by rw [cL]; exact nb)).trans e) a0 a1 a3 a4 a5, rfl, qq⟩⟩
      · refine thnF (T.item (blkX X E z3 H3 sc ce fp) rfl rfl rfl hc n [] z5 _ H5 (fun _ _ => False) I5 (stay I5 none5) t5 go) fun r z6 got => ?_
        obtain ⟨u, rfl, h6⟩ := got
        refine thnF h6 fun _ z7 got => ?_
        obtain ⟨x, H7, I7, r7, y7, t7, none7⟩ := got
        refine wpAny_mono (pg.run _ z7 _ H7 x u _ (I7.pinned (stay I7 none7) (T.obj _ _ t7)) r7 (step x H7 y7)) (fun _ z8 got => ?_) out
        obtain ⟨σ8, H8, I8, wiped, q8⟩ := got
        refine wpAny_mono (pt.run _ z8 σ8 H8 _ I8 q8) (fun b z9 got => ?_) out
        obtain ⟨H9, I9, q9⟩ := got
        have again : ∀ {z : Shared} {H' : Hp}, Inv (blkX X E z3 H3 sc ce fp) ([] ++ pinsAt fp z7.heap) σ8 H' z → Nx H' → ∃ m, m < k ∧ ∃ n H', Inv (blkX X E z3 H3 sc ce fp) [] (wipe σ (own.map (·.2))) H' z ∧ tn n z.heap ∧ (∀ c ∈ fp, H' c = none) ∧ W n m H' := fun {z H'} I' nx => by
          obtain ⟨m', lt, w'⟩ := dec H' nx
          have same : ∀ c ∈ fp, ∀ o, z7.heap.get? c = some o → z.heap.get? c = some o ∧ H' c = none := fun c hc o e =>
            let y := I'.pin (c, o) (List.mem_append_right _ (List.mem_append_right _ (mem_pinsAt hc e)))
            ⟨y.1, y.2.1⟩
          refine ⟨m', lt, n + 1, H', (I'.unpinned (pins := [])).weak (by rw [← wiped, wipe_length]) (fun j v e => ?_), T.keep _ _ _ t7 fun c hc o e => (same c hc o e).1, fun c hc => ?_, w'⟩
          · rw [← wiped] at e
            exact (wipe_some e).1
          · obtain ⟨o, e, _⟩ := T.obj _ _ t7 c hc
            exact (same c hc o e).2
        cases b with
        | false =>
          rw [if_neg Bool.false_ne_true] at q9 ⊢
          exact again I9 q9
        | true =>
          rw [if_pos rfl] at q9 ⊢
          refine wpAny_mono (pe.run _ z9 σ8 H9 _ I9 q9) (fun y z10 got => ?_) out
          obtain ⟨yv, H10, I10, r10, acc, hD, room, nx⟩ := got
          exact app_ok (X := blkX X E z3 H3 sc ce fp) I10 hD room r10 fun z11 I11 => again I11 nx
  have fin := key _ rfl
  rw [hclo] at fin
  unfold compEnvC at fin
  rw [hrel] at fin
  exact fin
/-- .. that is stored -/
theorem ps_setLcX {i : Nat} {y : Str} {py spos : Pos} {elt tg iter : Expr} {ifs : List Expr} {sc : Scope} {own : List (Str × Nat)} {pos : Pos} {wi : TI} {g : TG} {tt : TT} {te : TE} {E : XK} (tk : L2N.Takes X (fun c d _ H => E c d H)) (hst : X.stack = X.env :: X.outer) (hfr : X.env.frame = some X.env.locals) (hc : X.calm = true) (nd : X.N.Nodup) (hN : X.N[i]? = some y) (hloc : List.lookup y X.env.scope.names = some .local) (sw : swapsWith (.ListComp elt [⟨tg, iter, ifs, 0⟩] sc pos) (some (.Name y py)) spos.line X.env = pure true) (pgy : PG X (.Name y py) (gName i)) (hi : PI X tg iter wi) (ok : BlkOk X.N X.env.scope sc own)
    (nfree : ∀ y ∈ sc.names, y.2 ≠ .free) (hrel : relabel sc X.env = sc) (hclo : cloFrom X.env.cells sc.names [] = [])
    (hg : ∀ (z : Shared) (H : Hp) (C : Addr) (cl : List (Str × Addr)) (fp : List Addr), PG (blkX X E z H sc (compEnvC sc cl C X.env) fp) tg g)
    (ht : ∀ (z : Shared) (H : Hp) (C : Addr) (cl : List (Str × Addr)) (fp : List Addr), PTs (blkX X E z H sc (compEnvC sc cl C X.env) fp) ifs tt)
    (he : ∀ (z : Shared) (H : Hp) (C : Addr) (cl : List (Str × Addr)) (fp : List Addr), PE (blkX X E z H sc (compEnvC sc cl C X.env) fp) elt te)
    (hs : ∀ x, foldedSetIterable iter X.env x = pure x := by intro _; rfl) : PS X (.Assign [.Name y py] (.ListComp elt [⟨tg, iter, ifs, 0⟩] sc pos) spos) (tAsg (tLc wi g tt te (own.map (·.2))) (gName i)) := by
  refine ⟨fun pins z0 σ H D0 I wish => ?_⟩
  rw [exec_Assign_Name_used _ _ _ _ sw]
  refine wpAny_bind (wpAny_standAt (wpAny_bind ?_))
  show wpAny _ _ (do let _ ← comprehension (.ListComp elt [⟨tg, iter, ifs, 0⟩] sc pos) sc X.env (firstIterPos [⟨tg, iter, ifs, 0⟩] pos) (newList []) false (eval iter X.env) (some (assign (.Name y py) X.env)); pure ()) _ _ _
  refine wpAny_bind ?_
  refine wpAny_comprehension_use rfl hs nfree ok.kind (fun y hy e => by rw [ok.uniq y hy, e]) (thn (hi.run pins z0 σ H _ I wish) fun xv z1 hx => thn hx fun itv z2 got => ?_)
  obtain ⟨it, fp, tn, J, H2, rfl, I2, T, t2, f2, q⟩ := got
  refine wpAny_newObj_type (newEnv_comp ?_) (Nat.zero_le _)
  generalize eD : z2.heap.objs.size = D
  have freeD : H2 D = none := I2.hok.fresh (Nat.le_of_eq eD)
  obtain ⟨W, ⟨m0, w0⟩, turn⟩ := q D freeD
  generalize e3 : ({ z2 with heap := z2.heap.push { cls := .type "list", data := .seq ([] : List Value).toArray } } : Shared) = z3
  have I3 : Inv X pins σ (upd H2 D (.lst [])) z3 := by
    rw [← e3]
    refine I2.laid (t' := z2.toks) (fun b o e => Heap.get?_push_of_some _ e) (Nat.le_of_eq eD) ⟨Nat.zero_le _, [], 0, .nil, ?_⟩
    rw [← eD]
    exact Heap.get?_push_size _ rfl
  have h3 : z3.heap = z2.heap.push { cls := .type "list", data := .seq ([] : List Value).toArray } := by rw [← e3]
  have below : ∀ c ∈ fp, c < z2.heap.objs.size := fun c hc => by
    obtain ⟨ob, e, _⟩ := T.obj _ _ t2 c hc
    exact Heap.lt_size e
  have f3 : ∀ c ∈ fp, FpOk X pins (upd H2 D (.lst [])) c ∧ c < z3.heap.objs.size := fun c hc => by
    have lt := below c hc
    refine ⟨⟨?_, (f2 c hc).2⟩, by rw [h3, Heap.size_push]; exact Nat.lt_succ_of_lt lt⟩
    rw [upd_ne (by rw [← eD]; exact Nat.ne_of_lt lt)]
    exact (f2 c hc).1
  have t3 : tn 0 z3.heap := T.keep _ _ _ t2 fun c _ o e => by rw [h3]; exact Heap.get?_push_of_some _ e
  have I4 := block_start I3 ok nd f3
  have pg := hg z3 (upd H2 D (.lst [])) z3.heap.objs.size (cellsFrom (z3.heap.objs.size + 1) sc.names (cloFrom X.env.cells sc.names [])) fp
  have pt := ht z3 (upd H2 D (.lst [])) z3.heap.objs.size (cellsFrom (z3.heap.objs.size + 1) sc.names (cloFrom X.env.cells sc.names [])) fp
  have pe := he z3 (upd H2 D (.lst [])) z3.heap.objs.size (cellsFrom (z3.heap.objs.size + 1) sc.names (cloFrom X.env.cells sc.names [])) fp
  let QQ : Shared → Prop := fun s => wpAny (model X.prog X.w) X.A (pure () : Sem Unit) (fun _ s' => wpAny (model X.prog X.w) X.A (pure Flow.next) (SP X pins D0) X.xe s') X.xe s
  have key : ∀ ce : Env, ce = compEnvC sc (cellsFrom (z3.heap.objs.size + 1) sc.names (cloFrom X.env.cells sc.names [])) z3.heap.objs.size X.env →
      codeAny (model X.prog X.w) X.A (.compStart (.ListComp elt [⟨tg, iter, ifs, 0⟩] sc pos) 0 (.ref it) (.ref D) ce)
        (fun r s' => match r with
          | .ok _ => wpAny (model X.prog X.w) X.A (assign (.Name y py) X.env (.ref D)) (fun _ s'' => ∃ m, s''.heap.Ns ce.locals m ∧ ∀ h', Heap.SameBut ce.locals s''.heap h' → QQ { s'' with heap := h' }) X.xe s'
          | .error x => ∃ m, s'.heap.Ns ce.locals m ∧ ∀ h', Heap.SameBut ce.locals s'.heap h' → wpAny (model X.prog X.w) X.A (PySem.passOn "comprehension.variables-let-go" x ce) (fun (_ : Value) s => QQ s) X.xe { s' with heap := h' })
        { z3 with heap := pushCells (z3.heap.push { cls := .type "dict", data := .dict #[] }) sc.names } := by
    intro ce ece
    rw [← ece] at I4 pg pt pe
    have cL : ce.locals = z3.heap.objs.size := by rw [ece]; rfl
    have cF : ce.frame = X.env.frame := by rw [ece]; rfl
    have none3 : ∀ c ∈ fp, (upd H2 D (.lst [])) c = none := fun c hc => (f3 c hc).1.1
    generalize eH : upd H2 D (.lst []) = H3 at I3 I4 pg pt pe w0 none3 f3
    generalize e4 : ({ z3 with heap := pushCells (z3.heap.push { cls := .type "dict", data := .dict #[] }) sc.names } : Shared) = z4 at I4 ⊢
    have t4 : tn 0 z4.heap := T.keep _ _ _ t3 fun c _ o e => by rw [← e4]; exact pushCells_keeps _ _ _ _ (Heap.get?_push_of_some _ e)
    have f3' : ∀ b ∈ fp, (b ∈ X.ex ∨ X.s_0.heap.objs.size ≤ b) ∧ b ≠ X.env.locals ∧ (∀ (x : Str) (c : Addr), List.lookup x X.env.cells = some c → c ≠ b) ∧ ∀ (p : Addr × Obj), p ∈ X.pn ++ pins → p.fst ≠ b := fun c hc => ⟨(f3 c hc).1.2.2.2.1, (f3 c hc).1.2.1, (f3 c hc).1.2.2.2.2.1, (f3 c hc).1.2.2.2.2.2⟩
    have stay : ∀ {σ' : L2.St} {H' : Hp} {z : Shared}, Inv (blkX X E z3 H3 sc ce fp) [] σ' H' z → (∀ c ∈ fp, H' c = none) → ∀ c ∈ fp, FpOk (blkX X E z3 H3 sc ce fp) [] H' c := fun {σ' H' z} I' hn c hc =>
      ⟨hn c hc, (I'.ok.exf c hc).1, I'.ok.exfs c hc, .inl hc, fun y a e => (I'.ok.exf c hc).2 y a e, fun r hr => nomatch (show r ∈ ([] : List (Addr × Obj)) from hr)⟩
    have out : ∀ (e : Value) (s' : Shared), XB X E z3 H3 sc ce fp e s' → notedBy (model X.prog X.w) X.A ce (fun e s' => ∃ m, s'.heap.Ns ce.locals m ∧ ∀ h', Heap.SameBut ce.locals s'.heap h' → wpAny (model X.prog X.w) X.A (PySem.passOn "comprehension.variables-let-go" e ce) (fun (_ : Value) s => QQ s) X.xe { s' with heap := h' }) e s' := fun e s' h =>
      leave_lc tk hst hfr I3 rfl cL cF f3' h
    refine codeAny_compStart_list ?_ (T.self X.A 0 _ _ _ t4 ?_)
    all_goals
      refine compLoop_any (fun k z => ∃ n H', Inv (blkX X E z3 H3 sc ce fp) [] (wipe σ (own.map (·.2))) H' z ∧ tn n z.heap ∧ (∀ c ∈ fp, H' c = none) ∧ W n k H') ?_ m0 ⟨0, H3, inv_blk I4, t4, none3, w0⟩
      rintro k z5 ⟨n, H5, I5, t5, none5, w5⟩
      rcases turn n k H5 w5 with ⟨stop, qq⟩ | ⟨go, Nx, dec, step⟩
      · refine thnF (T.done (blkX X E z3 H3 sc ce fp) rfl rfl rfl hc n [] z5 _ H5 (fun _ _ => False) I5 (stay I5 none5) t5 stop) fun r z6 got => ?_
        obtain ⟨rfl, I6⟩ := got
        have I7 : Inv X pins σ H5 z6 := I3.call' (ch := fp) I6.os I6.base I6.hok I6.bare f3'
        have nC : H5 z3.heap.objs.size = none := by
          have y : H5 ce.locals = none := I6.free
          rw [cL] at y
          exact y
        obtain ⟨m, hn, _⟩ := I6.loc
        have hn : z6.heap.Ns ce.locals m := hn
        obtain ⟨a0, a1, a2, a3, a4, a5⟩ := I3.fpOk (Nat.le_refl _) nC
        obtain ⟨oC, es, ep, gC, dC, k1, k2⟩ := hn
        have FC : ∀ c ∈ [z3.heap.objs.size], FpOk X pins H5 c := fun c hc => by rw [List.mem_singleton.mp hc]; exact ⟨a0, a1, a2, a3, a4, a5⟩
        have gC' : z6.heap.get? z3.heap.objs.size = some oC := by rw [← cL]; exact gC
        have I8 := I7.pinned FC fun c hc => by rw [List.mem_singleton.mp hc]; exact ⟨oC, gC', fun v z => by rw [dC] at z; cases z⟩
        refine thn (pgy.run _ z6 σ H5 (.ref D) (.ref D) _ I8 rfl qq) fun _ z9 got => ?_
        obtain ⟨σ9, H9, I9, q9⟩ := got
        have pC := I9.pin (z3.heap.objs.size, oC) (List.mem_append_right _ (List.mem_append_right _ (mem_pinsAt (List.mem_singleton.mpr rfl) gC')))
        have I9' : Inv X pins σ9 H9 z9 := I9.unpinned
        refine ⟨m, ⟨oC, es, ep, by rw [cL]; exact pC.1, dC, k1, k2⟩, fun h'' sb => ?_⟩
        exact wpAny_pure (wpAny_pure ⟨σ9, H9, I9'.turned (t' := z9.toks) (fun b o nb e => (sb.2 b (by rw [cL]; exact nb)).trans e) pC.2.1 a1 a3 a4 a5, q9⟩)
      · refine thnF (T.item (blkX X E z3 H3 sc ce fp) rfl rfl rfl hc n [] z5 _ H5 (fun _ _ => False) I5 (stay I5 none5) t5 go) fun r z6 got => ?_
        obtain ⟨u, rfl, h6⟩ := got
        refine thnF h6 fun _ z7 got => ?_
        obtain ⟨x, H7, I7, r7, y7, t7, none7⟩ := got
        refine wpAny_mono (pg.run _ z7 _ H7 x u _ (I7.pinned (stay I7 none7) (T.obj _ _ t7)) r7 (step x H7 y7)) (fun _ z8 got => ?_) out
        obtain ⟨σ8, H8, I8, wiped, q8⟩ := got
        refine wpAny_mono (pt.run _ z8 σ8 H8 _ I8 q8) (fun b z9 got => ?_) out
        obtain ⟨H9, I9, q9⟩ := got
        have again : ∀ {z : Shared} {H' : Hp}, Inv (blkX X E z3 H3 sc ce fp) ([] ++ pinsAt fp z7.heap) σ8 H' z → Nx H' → ∃ m, m < k ∧ ∃ n H', Inv (blkX X E z3 H3 sc ce fp) [] (wipe σ (own.map (·.2))) H' z ∧ tn n z.heap ∧ (∀ c ∈ fp, H' c = none) ∧ W n m H' := fun {z H'} I' nx => by
          obtain ⟨m', lt, w'⟩ := dec H' nx
          have same : ∀ c ∈ fp, ∀ o, z7.heap.get? c = some o → z.heap.get? c = some o ∧ H' c = none := fun c hc o e =>
            let y := I'.pin (c, o) (List.mem_append_right _ (List.mem_append_right _ (mem_pinsAt hc e)))
            ⟨y.1, y.2.1⟩
          refine ⟨m', lt, n + 1, H', (I'.unpinned (pins := [])).weak (by rw [← wiped, wipe_length]) (fun j v e => ?_), T.keep _ _ _ t7 fun c hc o e => (same c hc o e).1, fun c hc => ?_, w'⟩
          · rw [← wiped] at e
            exact (wipe_some e).1
          · obtain ⟨o, e, _⟩ := T.obj _ _ t7 c hc
            exact (same c hc o e).2
        cases b with
        | false =>
          rw [if_neg Bool.false_ne_true] at q9 ⊢
          exact again I9 q9
        | true =>
          rw [if_pos rfl] at q9 ⊢
          refine wpAny_mono (pe.run _ z9 σ8 H9 _ I9 q9) (fun y z10 got => ?_) out
          obtain ⟨yv, H10, I10, r10, acc, hD, room, nx⟩ := got
          exact app_ok (X := blkX X E z3 H3 sc ce fp) I10 hD room r10 fun z11 I11 => again I11 nx
  have fin := key _ rfl
  rw [hclo] at fin
  unfold compEnvC at fin
  rw [hrel] at fin
  exact fin
end
end Fb

namespace Fb
open PySem PySem.Spec PyProof.Rows L2
local macro_rules | `(tactic| walk_at "s") => `(tactic| repeat (first | refine ⟨_, rfl, ?_⟩ | refine ⟨_, _, rfl, rfl, ?_⟩ | refine ⟨_, _, rfl, Or.inl (by assumption), ?_⟩ | refine ⟨rfl, ?_⟩ | refine ⟨(by decide : (0 : Int) < _), ?_⟩ | refine ⟨⟨by decide, by decide⟩, ?_⟩ | refine ⟨_, _, _, rfl, (by assumption), (by first | decide | omega), ?_⟩))
def spTof2 (K : PySem.W.Frag) (a : Ads) (P P2 : Addr) : Sp := fun vs H Q E => ∃ (l : Addr) (zs : List Str), vs = [.ref l] ∧ SqL K H l (zs.map V.str) ∧ zs.length ≤ 400 ∧ (∀ z ∈ zs, okS 1000 z) ∧ H P = some (TabO P) ∧ H P2 = some (TabO P2) ∧
  (∀ z ∈ zs, parseL z = none → ∀ H', Same H H' → E (.ref a.BadLine) none H') ∧
  (∀ rs : List Row, zs.map parseL = rs.map some → (takeRows [] (rs.map givenOf)).1 = 0 → ∀ (x d : Addr) (H' : Hp), H x = none → H d = none → Same H H' → TarAt a.Tariff H' x d (takeRows [] (rs.map givenOf)).2 → Q (.ref x) H') ∧
  (∀ rs : List Row, zs.map parseL = rs.map some → (takeRows [] (rs.map givenOf)).1 ≠ 0 → ∀ H', Same H H' → E (.ref (errOf a (takeRows [] (rs.map givenOf)).1)) none H')
theorem parse_ask {z : Str} {r : Row} (hz : okS 1000 z) (h : parseL z = some r) : ask (givenOf r).1 ∧ ask (givenOf r).2.1 ∧ ask (givenOf r).2.2 := by
  have part : ∀ p ∈ wds z, ask (.str p) := fun p hp => by
    obtain ⟨l1, c1⟩ := split_parts_len p hp
    have := hz.1
    exact .inr (.inr (.inr ⟨p, rfl, by omega, fun c hc => hz.2 c (c1 c hc)⟩))
  unfold parseL at h
  split at h
  · rename_i x y c e
    rw [e] at part
    split at h
    · cases h
    · split at h
      · cases h
        exact ⟨part _ (by simp), part _ (by simp), .inr (.inr (.inl ⟨_, rfl⟩))⟩
      · cases h
  · cases h
theorem parse_all : ∀ {zs : List Str}, (∀ z ∈ zs, ∃ r, parseL z = some r) → ∃ rs : List Row, zs.map parseL = rs.map some
  | [], _ => ⟨[], rfl⟩
  | z :: zs, h => by
    obtain ⟨r, hr⟩ := h z List.mem_cons_self
    obtain ⟨rs, hrs⟩ := parse_all fun z hz => h z (List.mem_cons_of_mem _ hz)
    exact ⟨r :: rs, by rw [List.map_cons, List.map_cons, hr, hrs]⟩
abbrev s_tariff_of : Stmt := topS 20
abbrev N_tariff_of : List Str := ["lines", "rows", "line"]
theorem sc_tariff_of : FnScope N_tariff_of ["lines"] (defScope s_tariff_of) := ⟨rfl, rfl, rfl, by decide +kernel, rfl, by decide +kernel, by decide +kernel⟩
section
variable {Pg : Program} {w : World} {K : PySem.W.Frag} {mg : Str → Option Value} {base : Heap} {a : Ads}
theorem ok_tof2 {f P P2 : Addr} {fd : FuncData} (F : Fun K "tariff_of" "tariff_of" s_tariff_of f fd) (T : Txt K mg a) (D_row_of : Dn Pg w K mg base 3 "row_of" ["line"] (spRowOf a P2)) (D_Tariff : Dk Pg w K mg base 4 "Tariff" a.Tariff ["self", "rows"] (spInit K a P)) :
    FnOk Pg w K mg base (L2N.CX Pg w) 6 f fd ["lines"] (spTof2 K a P P2) := by
  refine F.okN sc_tariff_of (fun vs H Q E h => ?_) (fun cdv A outer s H vs Q E hr h => ?_)
  · obtain ⟨_, _, rfl, _⟩ := h
    rfl
  · obtain ⟨l, zs, rfl, hs, hl, hz, hP, hP2, qB, qO, qE⟩ := h
    refine ⟨_, (pss_cons (ps_setLcX (i := 1) (own := [("line", 2)]) (g := (gName 2)) (tt := tYes) (L2N.takes_of rfl rfl rfl rfl) rfl rfl rfl sc_tariff_of.nd rfl rfl (sw_true rfl rfl rfl (by decide +kernel)) (pg_name (i := 1) sc_tariff_of.nd rfl (by first | exact Or.inl rfl | exact Or.inr rfl)) (pi_list (pv 0)) (blkOk_by (own := [("line", 2)]) (N := N_tariff_of) (sc := (defScope s_tariff_of)) (by decide +kernel)) (by decide +kernel) (by rfl) (by rfl) (fun _ _ _ _ _ => (pg_name (i := 2) sc_tariff_of.nd rfl (by first | exact Or.inl rfl | exact Or.inr rfl))) (fun _ _ _ _ _ => pts_nil) (fun _ _ _ _ _ => (pe_fnS D_row_of (hr.mono (by decide)) (fun σ => passB σ) (pa_cons (pv 2) pa_nil))))
      (pss_one (ps_ret (pe_mkS D_Tariff (hr.mono (by decide)) (fun σ => L2N.passAt (L2N.takes_of rfl rfl rfl rfl) σ) (pa_cons (pv 1) pa_nil))))), ?_⟩
    walk_at "s"
    refine ⟨⟨_, hs⟩, fun D hD => ?_⟩
    refine lc_listR (K := K) (xs := zs.map V.str) (fun i v H' => ∃ t, v = .ref t ∧ t ≠ D ∧ ∃ z r, zs[i]? = some z ∧ parseL z = some r ∧ IsRow H' t r) ?_ hD hs (by rw [List.length_map]; omega) (fun v => rfl) ?_ ?_
    · rintro i v H2 H3 sb ⟨t, e, n, z, r, hr1, hr2, h⟩
      exact ⟨t, e, n, z, r, hr1, hr2, sb _ _ n h⟩
    · intro i x H2 acc hi s2 hDl Q2 q2
      rw [List.getElem?_map] at hi
      obtain ⟨z, hz1, rfl⟩ := Option.map_eq_some_iff.mp hi
      have hm := List.mem_of_getElem? hz1
      walk_at "s"
      refine ⟨by have := (hz z hm).1; omega, s2 _ _ hP2, fun r er t H3 ht s3 h3 => ?_, fun e H3 s3 => qB z hm e H3 (Same.trans s2 s3)⟩
      exact q2 _ _ s3 ⟨t, rfl, (ne_of_none hDl ht).symm, z, r, hz1, er, h3⟩
    · intro H2 ys s2 hDl hl2 hr2
      rw [List.length_map] at hl2
      obtain ⟨rs, hrs⟩ := parse_all (zs := zs) fun z hzm => by
        obtain ⟨i, hi⟩ := List.getElem?_of_mem hzm
        have il := (List.getElem?_eq_some_iff.mp hi).1
        obtain ⟨t, e, n, z', r, h1, h2, h3⟩ := hr2 i _ (List.getElem?_eq_getElem (by omega))
        rw [hi] at h1; cases h1
        exact ⟨r, h2⟩
      have lrs : zs.length = rs.length := by have := congrArg List.length hrs; simpa using this
      obtain ⟨ts, rfl, hpr⟩ := pair_of (R := fun t r => IsRow H2 t r) (hl2.trans lrs) fun i v hv => by
        obtain ⟨t, e, n, z', r, h1, h2, h3⟩ := hr2 i v hv
        have h4 : (zs.map parseL)[i]? = (rs.map some)[i]? := by rw [hrs]
        rw [List.getElem?_map, h1, List.getElem?_map] at h4
        have h5 : some (some r) = (rs[i]?).map some := by rw [← h4, ← h2]; rfl
        cases hri : rs[i]? with
        | none => rw [hri] at h5; cases h5
        | some r' => rw [hri] at h5; cases h5; exact ⟨t, e, r, rfl, h3⟩
      walk_at "s"
      intro x dx hx hdx hne
      have m1 : Same H2 (upd (upd H2 dx (.own x)) x (.ins a.Tariff dx [])) := fun b o e => by rw [upd_ne (ne_of_none e hx), upd_ne (ne_of_none e hdx)]; exact e
      have asks : ∀ q ∈ rs.map givenOf, ask q.1 ∧ ask q.2.1 ∧ ask q.2.2 := fun q hq => by
        obtain ⟨r, hr1, rfl⟩ := List.mem_map.mp hq
        obtain ⟨i, hi⟩ := List.getElem?_of_mem hr1
        have h4 : (zs.map parseL)[i]? = (rs.map some)[i]? := by rw [hrs]
        rw [List.getElem?_map, List.getElem?_map, hi] at h4
        obtain ⟨z, hz1, hz2⟩ := Option.map_eq_some_iff.mp h4
        exact parse_ask (hz z (List.mem_of_getElem? hz1)) hz2
      refine ⟨x, dx, D, ts, rs.map givenOf, rfl, upd_same, m1 _ _ (s2 _ _ hP), SqL.of (m1 _ _ hDl), given_rows (rows_same m1 hpr), asks, by rw [List.length_map]; omega, fun e0 d H3 hd3 sb3 T3 => ⟨rfl, ?_⟩, fun e0 H3 sb3 => ?_⟩
      · have s3 : Same H2 H3 := fun b o e => sb3 _ _ (ne_of_none e hx) (m1 _ _ e)
        exact qO rs hrs e0 x d H3 (s2.free hx) (s2.free (m1.free hd3)) (Same.trans s2 s3) T3
      · have s3 : Same H2 H3 := fun b o e => sb3 _ _ (ne_of_none e hx) (m1 _ _ e)
        exact qE rs hrs e0 H3 (Same.trans s2 s3)
end
end Fb

namespace Fb
open PySem PySem.Spec PyProof.Rows L2
local macro_rules | `(tactic| walk_at "s") => `(tactic| repeat (first | refine ⟨_, rfl, ?_⟩ | refine ⟨_, _, rfl, rfl, ?_⟩ | refine ⟨_, _, rfl, Or.inl (by assumption), ?_⟩ | refine ⟨rfl, ?_⟩ | refine ⟨(by decide : (0 : Int) < _), ?_⟩ | refine ⟨⟨by decide, by decide⟩, ?_⟩ | refine ⟨_, _, _, rfl, (by assumption), (by first | decide | omega), ?_⟩))
/-! ### a tariff written as lines -/
def spLineOf : Sp := fun vs H Q _ => ∃ (x y : Str) (n : Int), vs = [.str x, .str y, .int n] ∧ GoodRow (x, y, n) ∧ Q (.str (lineOf (x, y, n))) H
def spLinesOf (K : PySem.W.Frag) (a : Ads) : Sp := fun vs H Q _ => ∃ (p d : Addr) (rs : List Row), vs = [.ref p] ∧ TarAt a.Tariff H p d rs ∧ GoodRows rs ∧ rs.length ≤ 400 ∧
  ∀ (D : Addr) (H' : Hp), H D = none → Same H H' → H' D = some (.lst ((rs.map lineOf).map V.str)) → Q (.ref D) H'
abbrev s_line_of : Stmt := topS 16
abbrev N_line_of : List Str := ["here", "there", "price"]
theorem sc_line_of : FnScope N_line_of ["here", "there", "price"] (defScope s_line_of) := ⟨rfl, rfl, rfl, by decide +kernel, rfl, by decide +kernel, by decide +kernel⟩
abbrev s_lines_of : Stmt := topS 17
abbrev N_lines_of : List Str := ["tariff", "here", "there", "price"]
theorem sc_lines_of : FnScope N_lines_of ["tariff"] (defScope s_lines_of) := ⟨rfl, rfl, rfl, by decide +kernel, rfl, by decide +kernel, by decide +kernel⟩
section
variable {Pg : Program} {w : World} {K : PySem.W.Frag} {mg : Str → Option Value} {base : Heap} {a : Ads}
theorem ok_line_of {f : Addr} {fd : FuncData} (F : Fun K "line_of" "line_of" s_line_of f fd) (T : Txt K mg a) : FnOk Pg w K mg base (L2N.CX Pg w) 1 f fd ["here", "there", "price"] spLineOf := by
  refine F.okN sc_line_of (fun vs H Q E h => ?_) (fun cdv A outer s H vs Q E hr h => ?_)
  · obtain ⟨_, _, _, rfl, _⟩ := h
    rfl
  · obtain ⟨x, y, n, rfl, g, q⟩ := h
    have l1 : x.length ≤ 12 := (isP_len g.p1).2
    have l2 : y.length ≤ 12 := (isP_len g.p2).2
    have l3 : (numS n).length ≤ 13 := (fig_num g.c).2.2.1
    have lb : blankS.length = 1 := by decide +kernel
    refine ⟨_, (pss_one (ps_ret (pe_joined (PJ.cons (pe_fmt (pv 0)) (PJ.cons pe_str (PJ.cons (pe_fmt (pv 1)) (PJ.cons pe_str (PJ.cons (pe_fmt (pv 2)) PJ.nil)))))))), ?_⟩
    walk_at "s"
    have e0 : (Str.empty ++ x).length = x.length := by rw [len_app]; show 0 + _ = _; omega
    have e1 : (Str.empty ++ x ++ blankS).length ≤ 13 := by rw [len_app, e0, lb]; omega
    have e2 : (Str.empty ++ x ++ blankS ++ y).length ≤ 25 := by rw [len_app]; omega
    have e3 : (Str.empty ++ x ++ blankS ++ y ++ blankS).length ≤ 26 := by rw [len_app, lb]; omega
    have e4 : (Str.empty ++ x ++ blankS ++ y ++ blankS ++ numS n).length ≤ 39 := by rw [len_app]; omega
    refine .inl ⟨_, rfl, szl (by omega), ?_⟩
    walk_at "s"
    refine ⟨szl (by omega), ?_⟩
    walk_at "s"
    refine ⟨szl (Nat.le_trans e1 (by decide)), ?_⟩
    walk_at "s"
    refine .inl ⟨_, rfl, szl (by omega), ?_⟩
    walk_at "s"
    refine ⟨szl (Nat.le_trans e2 (by decide)), ?_⟩
    walk_at "s"
    refine ⟨szl (Nat.le_trans e3 (by decide)), ?_⟩
    walk_at "s"
    refine .inr ⟨_, rfl, log_price g.c, ?_⟩
    walk_at "s"
    refine ⟨szl (Nat.le_trans e4 (by decide)), ?_⟩
    have ee : Str.empty ++ x ++ blankS ++ y ++ blankS ++ numS n = lineOf (x, y, n) := by
      unfold lineOf
      refine TL.ext_tl ?_
      simp only [TL.tl_append]
      rfl
    have q2 := q
    rw [← ee] at q2
    exact q2
theorem ok_lines_of {f : Addr} {fd : FuncData} (F : Fun K "lines_of" "lines_of" s_lines_of f fd) (T : Txt K mg a) (D_told : Dm Pg w K mg base 1 a.Tariff "told" ["self"] (spTold a)) (D_line_of : Dn Pg w K mg base 1 "line_of" ["here", "there", "price"] spLineOf) : FnOk Pg w K mg base (L2N.CX Pg w) 2 f fd ["tariff"] (spLinesOf K a) := by
  refine F.okN sc_lines_of (fun vs H Q E h => ?_) (fun cdv A outer s H vs Q E hr h => ?_)
  · obtain ⟨_, _, _, rfl, _⟩ := h
    rfl
  · obtain ⟨p, d, rs, rfl, hT, g, hl, q⟩ := h
    obtain ⟨dx, hob⟩ := hT.ob
    refine ⟨_, (pss_one (ps_ret (pe_lc (own := [("here", 1), ("there", 2), ("price", 3)]) (g := (gTup K 3 (gCons (gName 1) (gCons (gName 2) (gCons (gName 3) gNil))))) (tt := tYes) rfl sc_lines_of.nd (pi_list (pe_mdS0 (pv 0) T.cl_Tariff D_told (hr.mono (by decide)) passC)) (blkOk_by (own := [("here", 1), ("there", 2), ("price", 3)]) (N := N_lines_of) (sc := (defScope s_lines_of)) (by decide +kernel)) (fun _ _ _ _ _ => (pg_tup rfl (pgs_cons (pg_name (i := 1) sc_lines_of.nd rfl (by first | exact Or.inl rfl | exact Or.inr rfl)) (pgs_cons (pg_name (i := 2) sc_lines_of.nd rfl (by first | exact Or.inl rfl | exact Or.inr rfl)) (pgs_cons (pg_name (i := 3) sc_lines_of.nd rfl (by first | exact Or.inl rfl | exact Or.inr rfl)) pgs_nil))))) (fun _ _ _ _ _ => pts_nil) (fun _ _ _ _ _ => (pe_fnS D_line_of (hr.mono (by decide)) passC (pa_cons (pv 1) (pa_cons (pv 2) (pa_cons (pv 3) pa_nil)))))))), ?_⟩
    walk_at "s"
    refine ⟨p, dx, _, rfl, hob, prices_no d (by decide), ?_⟩
    refine ⟨p, d, rs, rfl, hT, by omega, fun tl H1 ts ntl s1 h1 hur => ?_⟩
    have hq1 : SqL K H1 tl (ts.map V.ref) := SqL.of h1
    have lts := Paired.length hur
    walk_at "s"
    refine ⟨⟨_, hq1⟩, fun D hD => ?_⟩
    refine lc_listG (K := K) (xs := ts.map V.ref) (fun i v _ => ∃ r, rs[i]? = some r ∧ v = .str (lineOf r)) (fun _ _ _ _ _ h => h) hD hq1 (by rw [List.length_map]; omega) (mono_tup (mono_cons mono_name (mono_cons mono_name (mono_cons mono_name mono_nil)))) ?_ ?_
    · intro i y H2 acc hi s2 hDl Q2 q2
      rw [List.getElem?_map] at hi
      obtain ⟨u, hu1, rfl⟩ := Option.map_eq_some_iff.mp hi
      obtain ⟨r, hr1, hrow⟩ := paired_at hur hu1
      have gr := g.ok r (List.mem_of_getElem? hr1)
      refine ⟨_, _, rfl, SqT.of (s2 _ _ hrow), rfl, _, _, rfl, _, _, rfl, _, _, rfl, rfl, ?_⟩
      refine ⟨rfl, ?_⟩
      walk_at "s"
      exact ⟨_, _, _, rfl, gr, q2 _ _ (Same.refl _) ⟨r, hr1, rfl⟩⟩
    · intro H3 ys s3 hDl hl2 hr3
      rw [List.length_map] at hl2
      have ey : ys = (rs.map lineOf).map V.str := by
        refine List.ext_getElem? fun i => ?_
        rw [List.map_map, List.getElem?_map]
        cases hy : ys[i]? with
        | none =>
          have h3 := List.getElem?_eq_none_iff.mp hy
          rw [List.getElem?_eq_none (by omega)]; rfl
        | some v =>
          obtain ⟨rr, hr1, rfl⟩ := hr3 i v hy
          rw [hr1]; rfl
      rw [ey] at hDl
      exact q D H3 (s1.free hD) (Same.trans s1 s3) hDl
end
end Fb

namespace Fb
open PySem PySem.Spec PyProof.Rows L2
local macro_rules | `(tactic| walk_at "s") => `(tactic| repeat (first | refine ⟨_, rfl, ?_⟩ | refine ⟨_, _, rfl, rfl, ?_⟩ | refine ⟨_, _, rfl, Or.inl (by assumption), ?_⟩ | refine ⟨rfl, ?_⟩ | refine ⟨(by decide : (0 : Int) < _), ?_⟩ | refine ⟨⟨by decide, by decide⟩, ?_⟩ | refine ⟨_, _, _, rfl, (by assumption), (by first | decide | omega), ?_⟩))
/-! ### cells of the script -/
def cel (ns : List Int) (j : Int) : Int := ns.getD j.toNat 0
def spCell (K : PySem.W.Frag) : Sp := fun vs H Q _ => ∃ (l : Addr) (ns : List Int) (j : Int), vs = [.ref l, .int j] ∧ SqL K H l (ns.map V.int) ∧ 0 ≤ j ∧ Q (.int (cel ns j)) H
abbrev s__law_cell_at : Stmt := topS 22
abbrev N__law_cell_at : List Str := ["_law_script", "_law_k"]
theorem sc__law_cell_at : FnScope N__law_cell_at ["_law_script", "_law_k"] (defScope s__law_cell_at) := ⟨rfl, rfl, rfl, by decide +kernel, rfl, by decide +kernel, by decide +kernel⟩
section
variable {Pg : Program} {w : World} {K : PySem.W.Frag} {mg : Str → Option Value} {base : Heap} {a : Ads}
theorem ok_cell {f : Addr} {fd : FuncData} (F : Fun K "_law_cell_at" "_law_cell_at" s__law_cell_at f fd) (T : Txt K mg a) : FnOk Pg w K mg base (L2N.CX Pg w) 1 f fd ["_law_script", "_law_k"] (spCell K) := by
  refine F.okN sc__law_cell_at (fun vs H Q E h => ?_) (fun cdv A outer s H vs Q E hr h => ?_)
  · obtain ⟨l, ns, j, rfl, _⟩ := h
    rfl
  · obtain ⟨l, ns, j, rfl, hs, hj, q⟩ := h
    refine ⟨_, (pss_cons (ps_if (pt_cmpR op_lt (pv 1) (pe_callB call_len_seq (by rfl) T.n_len (by decide +kernel) (pa_cons (pv 0) pa_nil)) (nomark _)) (pss_one (ps_ret (pe_ix ix_list (pv 0) (pv 1) (fun _ _ => rfl)))) pss_nil)
      (pss_one (ps_ret pe_int))), ?_⟩
    walk_at "s"
    refine ifD (fun c => ?_) (fun c => ?_)
    · rw [List.length_map] at c
      walk_at "s"
      exact ⟨_, _, _, _, rfl, rfl, hs, atI_map hj (by omega), q⟩
    · rw [List.length_map] at c
      have e : cel ns j = 0 := by
        unfold cel
        rw [List.getD_eq_getElem?_getD, List.getElem?_eq_none (by omega)]; rfl
      rw [e] at q
      exact q
end
end Fb

namespace Fb
open PySem PySem.Spec PyProof.Rows L2
local macro_rules | `(tactic| walk_at "s") => `(tactic| repeat (first | refine ⟨_, rfl, ?_⟩ | refine ⟨_, _, rfl, rfl, ?_⟩ | refine ⟨_, _, rfl, Or.inl (by assumption), ?_⟩ | refine ⟨rfl, ?_⟩ | refine ⟨(by decide : (0 : Int) < _), ?_⟩ | refine ⟨⟨by decide, by decide⟩, ?_⟩ | refine ⟨_, _, _, rfl, (by assumption), (by first | decide | omega), ?_⟩))
/-! ### names -/
def spNames : Sp := fun vs H Q _ => ∃ (c : Int) (n : Nat), vs = [.int c, .int (n : Int)] ∧ n ≤ 52 ∧ ∀ (p : Addr) (H' : Hp), H p = none → Same H H' → H' p = some (.lst ((List.range n).map fun k => V.str (nameOf c k))) → Q (.ref p) H'
abbrev s__law_names : Stmt := topS 23
abbrev N__law_names : List Str := ["_law_cell", "_law_many", "_law_letters", "_law_size", "_law_place", "_law_k", "_law_names_here", "_law_turn", "_law_name", "_law_j", "_law_sign"]
theorem sc__law_names : FnScope N__law_names ["_law_cell", "_law_many"] (defScope s__law_names) := ⟨rfl, rfl, rfl, by decide +kernel, rfl, by decide +kernel, by decide +kernel⟩
section
variable {Pg : Program} {w : World} {K : PySem.W.Frag} {mg : Str → Option Value} {base : Heap} {a : Ads}
theorem ok_names {f : Addr} {fd : FuncData} (F : Fun K "_law_names" "_law_names" s__law_names f fd) (T : Txt K mg a) : FnOk Pg w K mg base (L2N.CX Pg w) 1 f fd ["_law_cell", "_law_many"] spNames := by
  refine F.okN sc__law_names (fun vs H Q E h => ?_) (fun cdv A outer s H vs Q E hr h => ?_)
  · obtain ⟨c, n, rfl, _⟩ := h
    rfl
  · obtain ⟨c, n, rfl, hn, q⟩ := h
    have PO : PassesOwn (model Pg w) (A.deeper (envOfC "_law_names" (defScope s__law_names) s.heap.objs.size f cdv)) (envOfC "_law_names" (defScope s__law_names) s.heap.objs.size f cdv) (cxOf (L2N.CX Pg w) Pg w K mg base N__law_names "_law_names" (defScope s__law_names) f cdv A outer s H E).xe := passes_of rfl
    refine ⟨_, (pss_cons (ps_set (i := 2) sc__law_names.nd rfl (by first | exact Or.inl rfl | exact Or.inr rfl) pe_str)
      (pss_cons (ps_set (i := 3) sc__law_names.nd rfl (by first | exact Or.inl rfl | exact Or.inr rfl) (pe_op op_mod (pe_op op_fdiv (pv 0) pe_int) pe_int))
      (pss_cons (ps_set (i := 4) sc__law_names.nd rfl (by first | exact Or.inl rfl | exact Or.inr rfl) (pe_op op_mod (pe_op op_fdiv (pv 0) pe_int) (pe_op op_add (pv 3) pe_int)))
      (pss_cons (ps_if (pt_cmpR op_eq (pe_op op_mod (pe_op op_fdiv (pv 0) pe_int) pe_int) pe_int (nomark _)) (pss_one (ps_ret (pe_lc (own := [("_law_k", 5)]) (g := (gName 5)) (tt := tYes) rfl sc__law_names.nd (pi_range1 (by rfl) T.n_range (pa_cons (pv 1) pa_nil)) (blkOk_by (own := [("_law_k", 5)]) (N := N__law_names) (sc := (defScope s__law_names)) (by decide +kernel)) (fun _ _ _ _ _ => (pg_name (i := 5) sc__law_names.nd rfl (by first | exact Or.inl rfl | exact Or.inr rfl))) (fun _ _ _ _ _ => pts_nil) (fun _ _ _ _ _ => (pe_op op_repS (pe_ix ix_str (pv 2) (pe_op op_mod (pe_op op_add (pv 0) (pe_op op_fdiv (pv 5) pe_int)) pe_int) (fun _ _ => rfl)) (pe_op op_add pe_int (pe_op op_mod (pv 5) pe_int))))))) pss_nil)
      (pss_cons (ps_set (i := 6) sc__law_names.nd rfl (by first | exact Or.inl rfl | exact Or.inr rfl) (pe_lst pa_nil))
      (pss_cons (ps_for PO rfl (pi_range1 (by rfl) T.n_range (pa_cons (pv 1) pa_nil)) (pg_name (i := 5) sc__law_names.nd rfl (by first | exact Or.inl rfl | exact Or.inr rfl))
        (pss_cons (ps_set (i := 7) sc__law_names.nd rfl (by first | exact Or.inl rfl | exact Or.inr rfl) (pe_op op_add (pe_op op_fdiv (pv 0) pe_int) (pe_op op_mul (pe_op op_mul (pv 5) (pv 5)) (pe_op op_mod (pe_op op_fdiv (pv 0) pe_int) pe_int))))
          (pss_cons (ps_set (i := 8) sc__law_names.nd rfl (by first | exact Or.inl rfl | exact Or.inr rfl) (pe_bm PySem.F.plainAttrs_str PySem.F.slot_str_join PySem.F.type_str_join mt_join pe_str (pa_cons (pe_lc (own := [("_law_j", 9)]) (g := (gName 9)) (tt := tYes) rfl sc__law_names.nd (pi_range1 (by rfl) T.n_range (pa_cons (pv 3) pa_nil)) (blkOk_by (own := [("_law_j", 9)]) (N := N__law_names) (sc := (defScope s__law_names)) (by decide +kernel)) (fun _ _ _ _ _ => (pg_name (i := 9) sc__law_names.nd rfl (by first | exact Or.inl rfl | exact Or.inr rfl))) (fun _ _ _ _ _ => pts_nil) (fun _ _ _ _ _ => (pe_ix ix_str (pv 2) (pe_op op_mod (pe_op op_add (pv 7) (pe_op op_mul pe_int (pv 9))) pe_int) (fun _ _ => rfl)))) pa_nil)))
          (pss_cons (ps_set (i := 10) sc__law_names.nd rfl (by first | exact Or.inl rfl | exact Or.inr rfl) (pe_ix ix_str (pv 2) (pe_op op_mod (pe_op op_add (pv 0) (pv 5)) pe_int) (fun _ _ => rfl)))
          (pss_one (ps_expr (pe_bm PySem.F.plainAttrs_list PySem.F.slot_list_append PySem.F.type_list_append mt_append (pv 6) (pa_cons (pe_op op_add_str (pe_op op_add_str (pe_op op_add_str (pe_slice sl_str (pv 8) po_none (po_some (pv 4))) (pv 10)) (pe_slice sl_str (pv 8) (po_some (pv 4)) po_none)) (pe_op op_repS pe_str (pe_op op_fdiv (pv 5) pe_int))) pa_nil))))))))
      (pss_one (ps_ret (pv 6))))))))), ?_⟩
    have eSz : c / 26 % 11 = (nmSize c : Int) := by unfold nmSize; omega
    have hPl : (0 : Int) ≤ c / 286 % (c / 26 % 11 + 1) := Int.emod_nonneg _ (by omega)
    have ePl : c / 286 % (c / 26 % 11 + 1) = (nmPlace c : Int) := by unfold nmPlace; rw [← eSz]; omega
    walk_at "s"
    refine ⟨by omega, ?_⟩
    walk_at "s"
    refine ifD (fun c1 => ?_) (fun c1 => ?_)
    · have ho : nmOne c = true := decide_eq_true (V.int.inj c1)
      walk_at "s"
      refine ⟨by omega, by omega, fun D hD => ?_⟩
      refine lc_rangeR (fun i v _ => v = .str (nameOf c i)) (fun _ _ _ _ _ r => r) hD (by omega) (fun v => rfl) ?_ ?_
      · intro i H2 acc hi s2 hDl Q2 q2
        walk_at "s"
        refine ⟨_, _, _, rfl, rfl, abc_len, abc_code _, ?_⟩
        walk_at "s"
        refine ⟨mulOk_small (by omega) (by omega) (show 1 ≤ 1000 by decide), ?_⟩
        refine q2 _ _ (Same.refl _) ?_
        refine congrArg V.str (str_ext ?_)
        rw [mul_sign _ _ (by omega)]
        show _ = nameL c i
        unfold nameL
        rw [if_pos ho, show (1 + (0 + (i : Int)) % 12).toNat = 1 + i % 12 by omega, show c + (0 + (i : Int)) / 12 = c + ((i / 12 : Nat) : Int) by omega]
      · intro H2 ys s2 hDl hl hr
        have e : ys = (List.range n).map fun k => V.str (nameOf c k) := by
          refine List.ext_getElem? fun i => ?_
          by_cases h : i < n
          · have h2 : i < ys.length := by omega
            rw [List.getElem?_map, List.getElem?_range h, List.getElem?_eq_getElem h2, hr i _ (List.getElem?_eq_getElem h2)]
            rfl
          · rw [List.getElem?_eq_none (by omega), List.getElem?_eq_none (by simp; omega)]
        rw [e] at hDl
        exact q D H2 hD s2 hDl
    · have ho : nmOne c = false := decide_eq_false fun z => c1 (congrArg V.int z)
      refine ⟨Nat.zero_le _, fun p hp => ?_⟩
      walk_at "s"
      refine ⟨by omega, by omega, ?_⟩
      refine for_range (fun i σ H' => ∃ v5 v7 v8 v10, σ = [some (.int c), some (.int n), some (.str abc), some (.int (c / 26 % 11)), some (.int (c / 286 % (c / 26 % 11 + 1))), v5, some (.ref p), v7, v8, none, v10] ∧ Same H H' ∧ H' p = some (.lst ((List.range i).map fun k => V.str (nameOf c k))))
        ⟨none, none, none, none, rfl, same_new hp, upd_same⟩ ?_ ?_
      · rintro i σ H2 hi ⟨v5, v7, v8, v10, rfl, s2, hpl⟩
        walk_at "s"
        refine ⟨mulSmall (by omega) (by omega), ?_⟩
        walk_at "s"
        refine ⟨mulSmall2 (by omega) (by omega), ?_⟩
        walk_at "s"
        refine ⟨by omega, by omega, fun D hD => ?_⟩
        refine lc_rangeR (fun j v _ => v = .str ⟨#[code (c / 3 + (i : Int) * i * (c / 3432 % 2) + 5 * (j : Int))]⟩) (fun _ _ _ _ _ r => r) hD (by omega) (fun v => rfl) ?_ ?_
        · intro j H3 acc hj s3 hDl Q2 q2
          walk_at "s"
          refine ⟨mulSmall (by decide) (by decide), ?_⟩
          walk_at "s"
          refine ⟨_, _, _, rfl, rfl, abc_len, abc_code _, ?_⟩
          refine q2 _ _ (Same.refl _) ?_
          rw [Int.zero_add, Int.zero_add]
        · intro H3 ys s3 hDl hl hr
          obtain ⟨zs, rfl, hz, h1⟩ := signs_of (f := fun j => code (c / 3 + (i : Int) * i * (c / 3432 % 2) + 5 * (j : Int))) hl hr
          rw [List.length_map] at hl
          have hbase : (Txt.join (Str.ofString "") zs).cps.toList = nmBase c i := by
            rw [join_tl _ (by decide +kernel), hz, show (c / 26 % 11).toNat = nmSize c from rfl]
            rfl
          have hsum : (zs.map (·.length)).sum ≤ zs.length := by
            clear hl hz hDl hr hbase
            induction zs with
            | nil => simp
            | cons z r ih =>
              have h3 := ih fun q hq => h1 q (List.mem_cons_of_mem _ hq)
              rw [List.map_cons, List.sum_cons, List.length_cons, h1 z List.mem_cons_self]
              omega
          have lb : (Txt.join (Str.ofString "") zs).length = nmSize c := by rw [len_tl, hbase, nmBase_len]
          have hsz := nmSize_le c
          have hpp := nmPlace_le c
          walk_at "s"
          refine ⟨_, _, zs, rfl, rfl, .inl (SqL.of hDl), ?_, ?_⟩
          · have e0 : (Str.ofString "").length = 0 := by decide
            rw [e0]; omega
          walk_at "s"
          refine ⟨_, _, _, rfl, rfl, abc_len, abc_code _, ?_⟩
          have s23 := Same.trans s2 s3
          have hpl3 := s3 _ _ hpl
          walk_at "s"
          refine ⟨.inl ⟨rfl, _, SqL.of hpl3⟩, ?_⟩
          walk_at "s"
          refine ⟨szl (by omega), ?_⟩
          rw [ePl]
          walk_at "s"
          have c1l := cut_len (Txt.join (Str.ofString "") zs) none (some (nmPlace c : Int))
          have c2l := cut_len (Txt.join (Str.ofString "") zs) (some (nmPlace c : Int)) none
          refine ⟨szl (show _ + 1 ≤ _ by omega), ?_⟩
          walk_at "s"
          refine ⟨szl (by omega), ?_⟩
          walk_at "s"
          refine ⟨szl (by rw [len_app]; show _ + 1 + _ ≤ _; omega), ?_⟩
          walk_at "s"
          refine ⟨mulOk_small (by omega) (by omega) (show 1 ≤ 1000 by decide), ?_⟩
          have mlen : (Txt.mul (Str.ofString "x") ((0 + (i : Int)) / 26)).length = ((0 + (i : Int)) / 26).toNat := by
            rw [mul_length _ _ (by omega)]
            exact Nat.one_mul _
          walk_at "s"
          refine ⟨szl (by rw [len_app, len_app]; show _ + 1 + _ + _ ≤ _; omega), ?_⟩
          refine ⟨_, _, _, rfl, rfl, hpl3, szlt (by simp; omega), ?_⟩
          refine ⟨_, _, _, _, rfl, same_mut s23 hp, ?_⟩
          have eZ : cutS (Txt.join (Str.ofString "") zs) none (some (nmPlace c : Int)) ++ (⟨#[code (c + (0 + (i : Int)))]⟩ : Str) ++ cutS (Txt.join (Str.ofString "") zs) (some (nmPlace c : Int)) none ++ Txt.mul (Str.ofString "x") ((0 + (i : Int)) / 26) = nameOf c i := by
            refine str_ext ?_
            rw [cps_app, cps_app, cps_app, cut_take _ _ (by rw [hbase, nmBase_len]; exact hpp), cut_drop _ _ (by rw [hbase, nmBase_len]; exact hpp), hbase]
            rw [show Str.ofString "x" = ⟨#[120]⟩ by decide +kernel, mul_sign _ _ (by omega)]
            show _ = nameL c i
            unfold nameL
            rw [if_neg (by rw [ho]; exact Bool.false_ne_true), show ((0 + (i : Int)) / 26).toNat = i / 26 by omega, Int.zero_add]
          rw [upd_same, eZ, List.range_succ, List.map_append]
          rfl
      · rintro σ H2 ⟨v5, v7, v8, v10, rfl, s2, hpl⟩
        walk_at "s"
        exact q p H2 hp s2 (by simpa using hpl)
end
end Fb

namespace Fb
open PySem PySem.Spec PyProof.Rows L2
local macro_rules | `(tactic| walk_at "s") => `(tactic| repeat (first | refine ⟨_, rfl, ?_⟩ | refine ⟨_, _, rfl, rfl, ?_⟩ | refine ⟨_, _, rfl, Or.inl (by assumption), ?_⟩ | refine ⟨rfl, ?_⟩ | refine ⟨(by decide : (0 : Int) < _), ?_⟩ | refine ⟨⟨by decide, by decide⟩, ?_⟩ | refine ⟨_, _, _, rfl, (by assumption), (by first | decide | omega), ?_⟩))
def namesV (c : Int) (n : Nat) : List V := (List.range n).map fun k => V.str (nameOf c k)
theorem nm_at {c : Int} {n k : Nat} {j : Int} (h : k < n) (e : j = (k : Int)) : atI (namesV c n) j = some (.str (nameOf c k)) := atI_of (by omega) (by
  unfold namesV
  rw [e, Int.toNat_natCast, List.getElem?_map, List.getElem?_range h]; rfl)
def spRows12 (K : PySem.W.Frag) : Sp := fun vs H Q _ => ∃ (l nl : Addr) (ns : List Int) (c : Int), vs = [.ref l, .ref nl] ∧ SqL K H l (ns.map V.int) ∧ SqL K H nl (namesV c 9) ∧
  ∀ (p : Addr) (H' : Hp) (ts : List Addr) (rs : List Row), H p = none → Same H H' → H' p = some (.lst (ts.map V.ref)) → Paired (IsRow H') ts rs → GoodRows rs → rs.length ≤ 160 → Q (.ref p) H'
abbrev s__law_rows : Stmt := topS 24
abbrev N__law_rows : List Str := ["_law_script", "_law_names_here", "_law_rows_here", "_law_told", "_law_k", "_law_cell", "_law_here", "_law_there", "_law_price", "_law_letters", "_law_way"]
theorem sc__law_rows : FnScope N__law_rows ["_law_script", "_law_names_here"] (defScope s__law_rows) := ⟨rfl, rfl, rfl, by decide +kernel, rfl, by decide +kernel, by decide +kernel⟩
section
variable {Pg : Program} {w : World} {K : PySem.W.Frag} {mg : Str → Option Value} {base : Heap} {a : Ads}
theorem ok_rows12 {f : Addr} {fd : FuncData} (F : Fun K "_law_rows" "_law_rows" s__law_rows f fd) (T : Txt K mg a) (D_cell_at : Dn Pg w K mg base 1 "_law_cell_at" ["_law_script", "_law_k"] (spCell K)) : FnOk Pg w K mg base (L2N.CX Pg w) 2 f fd ["_law_script", "_law_names_here"] (spRows12 K) := by
  refine F.okN sc__law_rows (fun vs H Q E h => ?_) (fun cdv A outer s H vs Q E hr h => ?_)
  · obtain ⟨l, nl, ns, c, rfl, _⟩ := h
    rfl
  · obtain ⟨l, nl, ns, c, rfl, hs, hn, q⟩ := h
    have hu := hu_of hr
    have PO : PassesOwn (model Pg w) (A.deeper (envOfC "_law_rows" (defScope s__law_rows) s.heap.objs.size f cdv)) (envOfC "_law_rows" (defScope s__law_rows) s.heap.objs.size f cdv) (cxOf (L2N.CX Pg w) Pg w K mg base N__law_rows "_law_rows" (defScope s__law_rows) f cdv A outer s H E).xe := passes_of rfl
    refine ⟨_, (pss_cons (ps_set (i := 2) sc__law_rows.nd rfl (by first | exact Or.inl rfl | exact Or.inr rfl) (pe_lstN pa_nil))
      (pss_cons (ps_set (i := 3) sc__law_rows.nd rfl (by first | exact Or.inl rfl | exact Or.inr rfl) pe_dnewTN)
      (pss_cons (ps_for PO rfl (pi_range1 (by rfl) T.n_range (pa_cons (pe_op op_mod (pe_fnS D_cell_at (hr.mono (by decide)) passC (pa_cons (pv 0) (pa_cons pe_int pa_nil))) pe_int) pa_nil)) (pg_name (i := 4) sc__law_rows.nd rfl (by first | exact Or.inl rfl | exact Or.inr rfl))
        (pss_cons (ps_set (i := 5) sc__law_rows.nd rfl (by first | exact Or.inl rfl | exact Or.inr rfl) (pe_fnS D_cell_at (hr.mono (by decide)) passC (pa_cons (pv 0) (pa_cons (pe_op op_add pe_int (pv 4)) pa_nil))))
          (pss_cons (ps_set (i := 6) sc__law_rows.nd rfl (by first | exact Or.inl rfl | exact Or.inr rfl) (pe_ix ix_list (pv 1) (pe_op op_mod (pv 5) pe_int) (fun _ _ => rfl)))
          (pss_cons (ps_set (i := 7) sc__law_rows.nd rfl (by first | exact Or.inl rfl | exact Or.inr rfl) (pe_ix ix_list (pv 1) (pe_op op_mod (pe_op op_add (pe_op op_add (pe_op op_mod (pv 5) pe_int) pe_int) (pe_op op_mod (pe_op op_fdiv (pv 5) pe_int) pe_int)) pe_int) (fun _ _ => rfl)))
          (pss_one (ps_if (pt_cmp (pc_dnotin hu (pe_tupN (pa_cons (pv 6) (pa_cons (pv 7) pa_nil))) (pv 3))) (pss_cons (ps_dput hu (pv 3) (pe_tupN (pa_cons (pv 6) (pa_cons (pv 7) pa_nil))) pe_bl rfl)
            (pss_cons (ps_set (i := 8) sc__law_rows.nd rfl (by first | exact Or.inl rfl | exact Or.inr rfl) (pe_op op_mod (pe_op op_mul (pe_op op_fdiv (pv 5) pe_int) pe_int) pe_int))
            (C8.pss_cut (ps_if (pt_cmpR op_eq (pe_op op_mod (pe_op op_fdiv (pv 5) pe_int) pe_int) pe_int (nomark _)) (pss_one (ps_set (i := 8) sc__law_rows.nd rfl (by first | exact Or.inl rfl | exact Or.inr rfl) (pe_ix ix_list (pe_lstN (pa_cons pe_int (pa_cons pe_int (pa_cons pe_int (pa_cons pe_int pa_nil))))) (pe_op op_mod (pe_op op_fdiv (pv 5) pe_int) pe_int) (fun _ _ => rfl)))) pss_nil)
            (pss_one (ps_expr (pe_bm PySem.F.plainAttrs_list PySem.F.slot_list_append PySem.F.type_list_append mt_appendN (pv 2) (pa_cons (pe_tupN (pa_cons (pv 6) (pa_cons (pv 7) (pa_cons (pv 8) pa_nil)))) pa_nil))))))) pss_nil))))))
      (pss_cons (ps_set (i := 9) sc__law_rows.nd rfl (by first | exact Or.inl rfl | exact Or.inr rfl) pe_str)
      (pss_cons (ps_for PO rfl (pi_range1 (by rfl) T.n_range (pa_cons pe_int pa_nil)) (pg_name (i := 4) sc__law_rows.nd rfl (by first | exact Or.inl rfl | exact Or.inr rfl))
        (pss_cons (ps_set (i := 10) sc__law_rows.nd rfl (by first | exact Or.inl rfl | exact Or.inr rfl) (pe_tupN (pa_cons (pe_op op_add_str pe_str (pe_ix ix_str (pv 9) (pe_op op_mod (pv 4) pe_int) (fun _ _ => rfl))) (pa_cons (pe_op op_add_str pe_str (pe_ix ix_str (pv 9) (pe_op op_fdiv (pv 4) pe_int) (fun _ _ => rfl))) pa_nil))))
          (pss_one (ps_if (PW.pt (pw_and (pt_cmpR op_eq (pe_op op_mod (pe_op op_fdiv (pe_fnS D_cell_at (hr.mono (by decide)) passC (pa_cons (pv 0) (pa_cons pe_int pa_nil))) pe_int) pe_int) pe_int (nomark _)) (pw_and (pt_cmpR op_lt (pe_callB call_len_seq (by rfl) T.n_len (by decide +kernel) (pa_cons (pv 2) pa_nil)) pe_int (nomark _)) (pw_and1 (pt_cmp (pc_dnotin hu (pv 10) (pv 3))))))) (pss_one (ps_expr (pe_bm PySem.F.plainAttrs_list PySem.F.slot_list_append PySem.F.type_list_append mt_appendN (pv 2) (pa_cons (pe_tupN (pa_cons (pe_ix ix_tup (pv 10) pe_int (fun _ _ => rfl)) (pa_cons (pe_ix ix_tup (pv 10) pe_int (fun _ _ => rfl)) (pa_cons (pv 4) pa_nil)))) pa_nil)))) pss_nil))))
      (pss_one (ps_ret (pv 2)))))))), ?_⟩
    walk_at "s"
    refine ⟨(by simp), fun p H1 hp s1 h1 => ?_⟩
    walk_at "s"
    intro td H2 htd s2 h2
    have hp2 := s2 _ _ h1
    have npt : p ≠ td := fun z => by rw [← z, h1] at htd; cases htd
    have htd0 : H td = none := s1.free htd
    have s02 := Same.trans s1 s2
    have hs2 := s02.seq hs
    walk_at "s"
    obtain ⟨n13, e13, l13⟩ := modN (cel ns 1) (n := 13) (by decide)
    refine ⟨by omega, by omega, ?_⟩
    refine for_range (fun i σ H' => ∃ (ts : List Addr) (rs : List Row) (v4 v5 v6 v7 v8 : Option V), σ = [some (.ref l), some (.ref nl), some (.ref p), some (.ref td), v4, v5, v6, v7, v8, none, none] ∧ Same H H' ∧ H' p = some (.lst (ts.map V.ref)) ∧ H' td = some (.dT (toldK rs)) ∧ Paired (IsRow H') ts rs ∧ GoodRows rs ∧ rs.length ≤ i)
      ⟨[], [], none, none, none, none, none, rfl, s02, hp2, h2, .nil, ⟨(fun r hr => by cases hr), List.nodup_nil⟩, Nat.le_refl _⟩ ?_ ?_
    · rintro i σ H3 hi ⟨ts, rs, v4, v5, v6, v7, v8, rfl, s3, hpl, htl, hpr, hg, hl⟩
      have hi13 : i < 13 := by omega
      have hs3 := s3.seq hs
      have hn3 := s3.seq hn
      walk_at "s"
      obtain ⟨x9, ex9, lx9⟩ := modN (cel ns (6 + (0 + (i : Int)))) (n := 9) (by decide)
      obtain ⟨y9, ey9, ly9⟩ := modN (cel ns (6 + (0 + (i : Int))) % 9 + 1 + cel ns (6 + (0 + (i : Int))) / 9 % 8) (n := 9) (by decide)
      have nxy : x9 ≠ y9 := fun z => by
        have e1 : cel ns (6 + (0 + (i : Int))) % 9 = (x9 : Int) := ex9
        have e2 : (cel ns (6 + (0 + (i : Int))) % 9 + 1 + cel ns (6 + (0 + (i : Int))) / 9 % 8) % 9 = (y9 : Int) := ey9
        have h8 : 0 ≤ cel ns (6 + (0 + (i : Int))) / 9 % 8 := Int.emod_nonneg _ (by decide)
        have h9 : cel ns (6 + (0 + (i : Int))) / 9 % 8 < 8 := Int.emod_lt_of_pos _ (by decide)
        omega
      refine ⟨_, _, _, _, rfl, rfl, hn3, nm_at (k := x9) lx9 ex9, ?_⟩
      walk_at "s"
      refine ⟨_, _, _, _, rfl, rfl, hn3, nm_at (k := y9) ly9 ey9, ?_⟩
      walk_at "s"
      generalize hz1 : nameOf c x9 = z1
      generalize hz2 : nameOf c y9 = z2
      have p1 : isP (.str z1) = true := by rw [← hz1]; exact name_isP (by omega)
      have p2 : isP (.str z2) = true := by rw [← hz2]; exact name_isP (by omega)
      have ne12 : z1 ≠ z2 := fun z => nxy (name_inj (c := c) (by omega) (by omega) (by rw [hz1, hz2]; exact z))
      refine ⟨(by simp), fun u H4 nu s4 h4 => ?_⟩
      have t4 := s4 _ _ htl
      walk_at "s"
      refine ⟨td, _, rfl, DGet.t (k := wayK z1 z2) t4 h4, ?_⟩
      walk_at "s"
      rw [told_has]
      have s34 := Same.trans s3 s4
      refine ifND (fun c4 => ?_) (fun c4 => ⟨ts, rs, _, _, _, _, _, rfl, s34, s4 _ _ hpl, t4, rows_same s4 hpr, hg, by omega⟩)
      walk_at "s"
      refine ⟨(by simp), fun t2 H5 nt2 s5 h5 => ?_⟩
      have t5 := s5 _ _ t4
      refine dput_go (k := wayK z1 z2) t5 h5 (by unfold toldK; rw [List.length_map]; omega) fun H6 s6 h6 => ?_
      have s06 : Same H H6 := same_mutB (Same.trans s34 s5) htd0 s6
      have hp6 := s6 _ _ npt (s5 _ _ (s4 _ _ hpl))
      have hpr6 : Paired (IsRow H6) ts rs := Paired.mapP (rows_same (Same.trans s4 s5) hpr) fun _ _ e => s6 _ _ (ne_of e t5 (by intro z; cases z)) e
      walk_at "s"
      refine ⟨mulSmall2 (by decide) (by decide), ?_⟩
      walk_at "s"
      refine ⟨fun σ' H' => ∃ pr : Int, isC (.int pr) = true ∧ Same H6 H' ∧ ∃ v5 : Option V, σ' = [some (.ref l), some (.ref nl), some (.ref p), some (.ref td), some (.int (0 + (i : Int))), v5, some (.str z1), some (.str z2), some (.int pr), none, none], ?_, ?_⟩
      · walk_at "s"
        refine ifD (fun c1 => ?_) (fun c1 => ?_)
        · walk_at "s"
          refine ⟨(by simp), fun b H7 nb s7 h7 => ?_⟩
          obtain ⟨z, hz, zm⟩ := atI_ints [0, 1, 10, 1000000000000] (i := cel ns (6 + (0 + (i : Int))) / 288 % 4) (by omega) (by show _ < ((4 : Nat) : Int); omega)
          walk_at "s"
          refine ⟨_, _, _, _, rfl, rfl, SqL.of h7, hz, ?_⟩
          refine ⟨z, ?_, s7, _, rfl⟩
          simp at zm
          rcases zm with rfl | rfl | rfl | rfl <;> exact isC_of (by decide) (by decide)
        · refine ⟨_, isC_of (Int.emod_nonneg _ (by decide)) ?_, Same.refl _, _, rfl⟩
          have := Int.emod_lt_of_pos (cel ns (6 + (0 + (i : Int))) / 72 * 48271) (show (0 : Int) < 1000000000001 by decide)
          omega
      · rintro σ1 H7 ⟨pr, pc, s7, v5', rfl⟩
        have hp7 := s7 _ _ hp6
        walk_at "s"
        refine ⟨.inl ⟨rfl, _, SqL.of hp7⟩, ?_⟩
        walk_at "s"
        refine ⟨(by simp), fun t3 H8 nt3 s8 h8 => ?_⟩
        have hp8 := s8 _ _ hp7
        have lts := Paired.length hpr
        refine ⟨_, _, _, rfl, rfl, hp8, by rw [List.length_map]; omega, fun H9 s9 h9 => ?_⟩
        have hpr8 := rows_same (Same.trans s7 s8) hpr6
        refine ⟨ts ++ [t3], rs ++ [(z1, z2, pr)], _, _, _, _, _, rfl, same_mutB (Same.trans s06 (Same.trans s7 s8)) hp s9, by rw [h9]; simp, ?_, Paired.snoc (keep_rows s9 hp8 hpr8) (s9 _ _ (ne_lt hp8 h8) h8), good_snoc hg ⟨p1, p2, ne12, pc⟩ c4, by rw [List.length_append]; show _ + 1 ≤ _; omega⟩
        rw [s9 _ _ npt.symm (s8 _ _ (s7 _ _ h6)), told_new (n := pr) c4]
    · rintro σ H3 ⟨ts, rs, v4, v5, v6', v7, v8, rfl, s3, hpl, htl, hpr, hg, hl⟩
      have hl13 : rs.length ≤ 13 := by omega
      walk_at "s"
      refine ⟨by decide, by decide, ?_⟩
      refine for_range (fun i σ H' => ∃ (ts' : List Addr) (rs' : List Row) (v4 v6 : Option V), σ = [some (.ref l), some (.ref nl), some (.ref p), some (.ref td), v4, v5, v6', v7, v8, some (.str abc), v6] ∧ Same H H' ∧ H' p = some (.lst (ts'.map V.ref)) ∧ H' td = some (.dT (toldK rs)) ∧ Paired (IsRow H') ts' rs' ∧ GoodRows rs' ∧ rs'.length ≤ 160 ∧
          (∀ r ∈ rs', r ∈ rs ∨ ∃ j, j < i ∧ r.1 = fa j ∧ r.2.1 = fb j)) ⟨ts, rs, _, none, rfl, s3, hpl, htl, hpr, hg, by omega, fun r hr1 => .inl hr1⟩ ?_ ?_
      · rintro i σ H4 hi ⟨ts', rs', v4', v6, rfl, s4, hpl4, htl4, hpr4, hg4, hl4, hw4⟩
        have hi175 : i < 175 := hi
        have hs4 := s4.seq hs
        have eA : Str.ofString "aa" ++ (⟨#[((0 + (i : Int)) % 25).toNat + 97]⟩ : Str) = fa i := by
          unfold fa
          rw [show ((0 + (i : Int)) % 25).toNat = i % 25 by omega]
        have eB : Str.ofString "bb" ++ (⟨#[((0 + (i : Int)) / 25).toNat + 97]⟩ : Str) = fb i := by
          unfold fb
          rw [show ((0 + (i : Int)) / 25).toNat = i / 25 by omega]
        walk_at "s"
        refine ⟨_, _, _, rfl, rfl, abc_len, abc_at (by omega) (by omega), ?_⟩
        walk_at "s"
        refine ⟨(by show 2 + 1 ≤ sizeLine; decide), ?_⟩
        walk_at "s"
        refine ⟨_, _, _, rfl, rfl, abc_len, abc_at (by omega) (by omega), ?_⟩
        walk_at "s"
        refine ⟨(by show 2 + 1 ≤ sizeLine; decide), ?_⟩
        rw [eA, eB]
        refine ⟨(by simp), fun t H5 nt s5 h5 => ?_⟩
        have hs5 := s5.seq hs4
        have hpl5 := s5 _ _ hpl4
        have htl5 := s5 _ _ htl4
        have hpr5 := rows_same s5 hpr4
        have hq5 : SqL K H5 p (ts'.map V.ref) := SqL.of hpl5
        have lts := Paired.length hpr4
        have stay : ∀ H6, Same H5 H6 → ∃ (ts'' : List Addr) (rs'' : List Row) (v4 v6 : Option V), ([some (.ref l), some (.ref nl), some (.ref p), some (.ref td), some (.int (0 + (i : Int))), v5, v6', v7, v8, some (.str abc), some (.ref t)] : L2.St) = [some (.ref l), some (.ref nl), some (.ref p), some (.ref td), v4, v5, v6', v7, v8, some (.str abc), v6] ∧ Same H H6 ∧ H6 p = some (.lst (ts''.map V.ref)) ∧ H6 td = some (.dT (toldK rs)) ∧ Paired (IsRow H6) ts'' rs'' ∧ GoodRows rs'' ∧ rs''.length ≤ 160 ∧
            (∀ r ∈ rs'', r ∈ rs ∨ ∃ j, j < i + 1 ∧ r.1 = fa j ∧ r.2.1 = fb j) := fun H6 s6 => ⟨ts', rs', _, _, rfl, Same.trans s4 (Same.trans s5 s6), s6 _ _ hpl5, s6 _ _ htl5, rows_same s6 hpr5, hg4, hl4, fun r hr1 => (hw4 r hr1).imp id fun ⟨j, hj, e⟩ => ⟨j, by omega, e⟩⟩
        walk_at "s"
        refine ifD (fun c1 => ?_) (fun c1 => stay _ (Same.refl _))
        walk_at "s"
        refine ifD (fun c2 => ?_) (fun c2 => stay _ (Same.refl _))
        rw [List.length_map] at c2
        walk_at "s"
        refine ⟨td, _, rfl, DGet.t (k := wayK (fa i) (fb i)) htl5 h5, ?_⟩
        walk_at "s"
        refine ifNB (fun c3 => ?_) (fun c3 => stay _ (Same.refl _))
        have cn : valV (toldK rs) (wayK (fa i) (fb i)) = none := by simpa using c3
        have hnew0 := way_new (fun _ => V.bl true) cn
        have hnew : (fa i, fb i) ∉ rs'.map fun r => (r.1, r.2.1) := fun hm => by
          obtain ⟨r, hr1, er⟩ := List.mem_map.mp hm
          rcases hw4 r hr1 with h | ⟨j, hj, ej1, ej2⟩
          · exact hnew0 (List.mem_map.mpr ⟨r, h, er⟩)
          · have := f_inj (k := j) (l := i) (by rw [← ej1]; exact (Prod.mk.inj er).1) (by rw [← ej2]; exact (Prod.mk.inj er).2)
            omega
        walk_at "s"
        refine ⟨.inl ⟨rfl, _, hq5⟩, ?_⟩
        walk_at "s"
        refine ⟨_, _, _, _, rfl, rfl, SqT.of h5, rfl, ?_⟩
        walk_at "s"
        refine ⟨_, _, _, _, rfl, rfl, SqT.of h5, rfl, ?_⟩
        walk_at "s"
        refine ⟨(by simp), fun v H6 nv s6 h6 => ?_⟩
        have hpl6 := s6 _ _ hpl5
        refine ⟨_, _, _, rfl, rfl, hpl6, by rw [List.length_map]; omega, fun H7 s7 h7 => ?_⟩
        have hpr6 := rows_same s6 hpr5
        refine ⟨ts' ++ [v], rs' ++ [(fa i, fb i, 0 + (i : Int))], _, _, rfl, same_mutB (Same.trans s4 (Same.trans s5 s6)) hp s7, by rw [h7]; simp, s7 _ _ npt.symm (s6 _ _ htl5), Paired.snoc (keep_rows s7 hpl6 hpr6) (s7 _ _ (ne_lt hpl6 h6) h6), good_snoc hg4 ⟨fa_isP i, fb_isP hi175, fa_ne_fb i i, isC_of (n := 0 + (i : Int)) (by omega) (by omega)⟩ hnew, by rw [List.length_append]; simp; omega, fun r hr2 => ?_⟩
        rcases List.mem_append.mp hr2 with h | h
        · exact (hw4 r h).imp id fun ⟨j, hj, e⟩ => ⟨j, by omega, e⟩
        · rw [List.mem_singleton.mp h]
          exact .inr ⟨i, by omega, rfl, rfl⟩
      · rintro σ H4 ⟨ts', rs', v4', v6, rfl, s4, hpl4, htl4, hpr4, hg4, hl4, hw4⟩
        walk_at "s"
        exact q p H4 ts' rs' hp s4 hpl4 hpr4 hg4 hl4
end
end Fb

namespace Fb
open PySem PySem.Spec PyProof.Rows L2
local macro_rules | `(tactic| walk_at "s") => `(tactic| repeat (first | refine ⟨_, rfl, ?_⟩ | refine ⟨_, _, rfl, rfl, ?_⟩ | refine ⟨_, _, rfl, Or.inl (by assumption), ?_⟩ | refine ⟨rfl, ?_⟩ | refine ⟨(by decide : (0 : Int) < _), ?_⟩ | refine ⟨⟨by decide, by decide⟩, ?_⟩ | refine ⟨_, _, _, rfl, (by assumption), (by first | decide | omega), ?_⟩))
def spRead : Sp := fun vs H Q _ => ∃ z : Str, vs = [.str z] ∧ okS 1000 z ∧ (parseL z = none → ∀ H', Same H H' → Q .non H') ∧ (∀ r, parseL z = some r → ∀ (t : Addr) (H' : Hp), H t = none → Same H H' → IsRow H' t r → Q (.ref t) H')
def spSame (K : PySem.W.Frag) : Sp := fun vs H Q _ => ∃ (l r : Addr), vs = [.ref l, .ref r] ∧ ((∃ zs : List Str, H l = some (.lst (zs.map V.str)) ∧ SqL K H r (zs.map V.str) ∧ zs.length ≤ 400 ∧ ∀ z ∈ zs, okS 90000 z) ∨
  (∃ (ts us : List Addr) (rs : List Row), H l = some (.lst (ts.map V.ref)) ∧ SqL K H r (us.map V.ref) ∧ Paired (IsRow H) ts rs ∧ Paired (IsRow H) us rs ∧ GoodRows rs ∧ rs.length ≤ 400)) ∧ ∀ H', Same H H' → Q (.bl true) H'
theorem shaped_str {z : Str} (h : okS 90000 z) : SeqAt.shaped (.str z) = true := shaped_flat (v := .str z) (.inr (.inr (.inr ⟨z, rfl, okS_data h⟩)))
theorem notin_digit (c : Nat) : (!decide (c ∈ (Str.ofString "0123456789").cps.toList)) = !digit c := by
  have e : (Str.ofString "0123456789").cps.toList = [48, 49, 50, 51, 52, 53, 54, 55, 56, 57] := by decide +kernel
  rw [e]
  congr 1
  unfold digit
  rw [← Bool.decide_and]
  refine decide_eq_decide.mpr ?_
  simp only [List.mem_cons, List.not_mem_nil, or_false]
  omega
theorem fig_all {z : Str} (h : isFig z = true) : z.cps.toList.all digit = true := by
  unfold isFig at h
  simp only [Bool.and_eq_true] at h
  have h2 := h.2
  split at h2
  · rw [of_decide_eq_true h2]; rfl
  · exact h2
abbrev s__law_read : Stmt := topS 27
abbrev N__law_read : List Str := ["_law_line", "_law_words", "_law_sign"]
theorem sc__law_read : FnScope N__law_read ["_law_line"] (defScope s__law_read) := ⟨rfl, rfl, rfl, by decide +kernel, rfl, by decide +kernel, by decide +kernel⟩
abbrev s__law_same : Stmt := topS 30
abbrev N__law_same : List Str := ["_law_found", "_law_due_here", "_law_k"]
theorem sc__law_same : FnScope N__law_same ["_law_found", "_law_due_here"] (defScope s__law_same) := ⟨rfl, rfl, rfl, by decide +kernel, rfl, by decide +kernel, by decide +kernel⟩
section
variable {Pg : Program} {w : World} {K : PySem.W.Frag} {mg : Str → Option Value} {base : Heap} {a : Ads}
theorem ok_same {f : Addr} {fd : FuncData} (F : Fun K "_law_same" "_law_same" s__law_same f fd) (T : Txt K mg a) : FnOk Pg w K mg base (L2N.CX Pg w) 1 f fd ["_law_found", "_law_due_here"] (spSame K) := by
  refine F.okN sc__law_same (fun vs H Q E h => ?_) (fun cdv A outer s H vs Q E hr h => ?_)
  · obtain ⟨_, _, rfl, _⟩ := h
    rfl
  · obtain ⟨l, r, rfl, hcase, q⟩ := h
    have PO : PassesOwn (model Pg w) (A.deeper (envOfC "_law_same" (defScope s__law_same) s.heap.objs.size f cdv)) (envOfC "_law_same" (defScope s__law_same) s.heap.objs.size f cdv) (cxOf (L2N.CX Pg w) Pg w K mg base N__law_same "_law_same" (defScope s__law_same) f cdv A outer s H E).xe := passes_of rfl
    refine ⟨_, (pss_cons (ps_if (PW.pt (pw_or (pt_not (pt_val (pe_callB call_isi (by rfl) T.n_isinstance (by decide +kernel) (pa_cons (pv 0) (pa_cons (pe_bty (n := "list") T.n_list (by decide +kernel)) pa_nil))))) (pw_or1 (pt_cmpR op_ne (pe_callB call_len_seq (by rfl) T.n_len (by decide +kernel) (pa_cons (pv 0) pa_nil)) (pe_callB call_len_seq (by rfl) T.n_len (by decide +kernel) (pa_cons (pv 1) pa_nil)) (nomark _))))) (pss_one (ps_ret pe_bl)) pss_nil)
      (pss_cons (ps_for PO rfl (pi_range1 (by rfl) T.n_range (pa_cons (pe_callB call_len_seq (by rfl) T.n_len (by decide +kernel) (pa_cons (pv 1) pa_nil)) pa_nil)) (pg_name (i := 2) sc__law_same.nd rfl (by first | exact Or.inl rfl | exact Or.inr rfl))
        (pss_one (ps_if (PW.pt (pw_or (PW.pt (pw_and (pt_val (pe_callB call_isi (by rfl) T.n_isinstance (by decide +kernel) (pa_cons (pe_ix ix_list (pv 1) (pv 2) (fun _ _ => rfl)) (pa_cons (pe_bty (n := "str") T.n_str (by decide +kernel)) pa_nil)))) (pw_and1 (pt_not (pt_val (pe_callB call_isi (by rfl) T.n_isinstance (by decide +kernel) (pa_cons (pe_ix ix_list (pv 0) (pv 2) (fun _ _ => rfl)) (pa_cons (pe_bty (n := "str") T.n_str (by decide +kernel)) pa_nil)))))))) (pw_or1 (pt_cmpR (op_neD hr.units) (pe_ix ix_list (pv 0) (pv 2) (fun _ _ => rfl)) (pe_ix ix_list (pv 1) (pv 2) (fun _ _ => rfl)) (nomark _))))) (pss_one (ps_ret pe_bl)) pss_nil)))
      (pss_one (ps_ret pe_bl)))), ?_⟩
    rcases hcase with ⟨zs, hl, hy, hn, hz⟩ | ⟨ts, us, rs, hl, hy, ht, hu2, hg, hn⟩
    · have hx : SqL K H l (zs.map V.str) := SqL.of hl
      walk_at "s"
      refine ⟨_, _, _, _, true, rfl, .ty "list", .base (.lst hl), kit_ty (by decide +kernel), ?_⟩
      walk_at "s"
      refine ifND (fun z => absurd rfl z) (fun _ => ?_)
      walk_at "s"
      rw [List.length_map]
      refine ⟨by omega, by omega, ?_⟩
      refine for_range (fun i σ H' => ∃ v2, σ = [some (.ref l), some (.ref r), v2] ∧ Same H H') ⟨none, rfl, Same.refl _⟩ ?_ ?_
      · rintro i σ H2 hi ⟨v2, rfl, s2⟩
        obtain ⟨z, hz1⟩ : ∃ z, zs[i]? = some z := ⟨_, List.getElem?_eq_getElem (by omega)⟩
        have hat : atI (zs.map V.str) (0 + (i : Int)) = some (.str z) := atI_of (by omega) (by rw [show (0 + (i : Int)).toNat = i by omega, List.getElem?_map, hz1]; rfl)
        have hx2 := s2.seq hx
        have hy2 := s2.seq hy
        have shz : SeqAt.shaped (.str z) = true := shaped_str (hz z (List.mem_of_getElem? hz1))
        walk_at "s"
        refine ⟨_, _, _, _, rfl, rfl, hy2, hat, ?_⟩
        walk_at "s"
        refine ⟨_, _, _, _, true, rfl, .ty "str", .base (.str _), kit_ty (by decide +kernel), ?_⟩
        walk_at "s"
        refine ⟨_, _, _, _, rfl, rfl, hx2, hat, ?_⟩
        walk_at "s"
        refine ⟨_, _, _, _, true, rfl, .ty "str", .base (.str _), kit_ty (by decide +kernel), ?_⟩
        walk_at "s"
        refine ⟨_, _, _, _, rfl, rfl, hx2, hat, ?_⟩
        walk_at "s"
        refine ⟨_, _, _, _, rfl, rfl, hy2, hat, ?_⟩
        refine ⟨_, _, .str z, .str z, shz, shz, ?_⟩
        rw [eqv_self shz]
        walk_at "s"
        exact s2
      · rintro σ H2 ⟨v2, rfl, s2⟩
        walk_at "s"
        exact q _ s2
    · have hx : SqL K H l (ts.map V.ref) := SqL.of hl
      have l1 := Paired.length ht
      have l2 := Paired.length hu2
      walk_at "s"
      refine ⟨_, _, _, _, true, rfl, .ty "list", .base (.lst hl), kit_ty (by decide +kernel), ?_⟩
      walk_at "s"
      rw [List.length_map, List.length_map, l1, l2]
      refine ifND (fun z => absurd rfl z) (fun _ => ?_)
      walk_at "s"
      rw [List.length_map]
      refine ⟨by omega, by omega, ?_⟩
      refine for_range (fun i σ H' => ∃ v2, σ = [some (.ref l), some (.ref r), v2] ∧ Same H H') ⟨none, rfl, Same.refl _⟩ ?_ ?_
      · rintro i σ H2 hi ⟨v2, rfl, s2⟩
        obtain ⟨t, ht1⟩ : ∃ t, ts[i]? = some t := ⟨_, List.getElem?_eq_getElem (by omega)⟩
        obtain ⟨u, hu1⟩ : ∃ u, us[i]? = some u := ⟨_, List.getElem?_eq_getElem (by omega)⟩
        obtain ⟨rr, hr1, e1⟩ := paired_at ht ht1
        obtain ⟨rr', hr2, e2⟩ := paired_at hu2 hu1
        rw [hr1] at hr2; cases hr2
        have gr := hg.ok rr (List.mem_of_getElem? hr1)
        have e1' : IsRow H2 t rr := s2 _ _ e1
        have e2' : IsRow H2 u rr := s2 _ _ e2
        have at1 : atI (ts.map V.ref) (0 + (i : Int)) = some (.ref t) := atI_of (by omega) (by rw [show (0 + (i : Int)).toNat = i by omega, List.getElem?_map, ht1]; rfl)
        have at2 : atI (us.map V.ref) (0 + (i : Int)) = some (.ref u) := atI_of (by omega) (by rw [show (0 + (i : Int)).toNat = i by omega, List.getElem?_map, hu1]; rfl)
        have hx2 := s2.seq hx
        have hy2 := s2.seq hy
        have sh := shaped_row gr
        walk_at "s"
        refine ⟨_, _, _, _, rfl, rfl, hy2, at2, ?_⟩
        walk_at "s"
        refine ⟨_, _, _, _, false, rfl, .ty "str", .base (.tup e2'), kit_ty (by decide +kernel), ?_⟩
        walk_at "s"
        refine ⟨_, _, _, _, rfl, rfl, hx2, at1, ?_⟩
        walk_at "s"
        refine ⟨_, _, _, _, rfl, rfl, hy2, at2, ?_⟩
        refine ⟨_, _, dp_row gr e1', dp_row gr e2', sh, sh, ?_⟩
        rw [eqv_self sh]
        walk_at "s"
        exact s2
      · rintro σ H2 ⟨v2, rfl, s2⟩
        walk_at "s"
        exact q _ s2
theorem ok_read {f : Addr} {fd : FuncData} (F : Fun K "_law_read" "_law_read" s__law_read f fd) (T : Txt K mg a) : FnOk Pg w K mg base (L2N.CX Pg w) 1 f fd ["_law_line"] spRead := by
  refine F.okN sc__law_read (fun vs H Q E h => ?_) (fun cdv A outer s H vs Q E hr h => ?_)
  · obtain ⟨_, rfl, _⟩ := h
    rfl
  · obtain ⟨z, rfl, hz, qN, q⟩ := h
    have hzl := hz.1
    refine ⟨_, (pss_cons (ps_set (i := 1) sc__law_read.nd rfl (by first | exact Or.inl rfl | exact Or.inr rfl) (pe_splitN (pv 0) pe_str))
      (pss_cons (ps_if (PW.pt (pw_or (pt_cmpR op_ne (pe_callB call_len_seq (by rfl) T.n_len (by decide +kernel) (pa_cons (pv 1) pa_nil)) pe_int (nomark _)) (pw_or (pt_cmpR op_in_seq pe_str (pv 1) rfl) (pw_or1 (pt_cmpR op_gt (pe_callB call_len_str (by rfl) T.n_len (by decide +kernel) (pa_cons (pe_ix ix_list (pv 1) pe_int (fun _ _ => rfl)) pa_nil)) pe_int (nomark _)))))) (pss_one (ps_ret pe_non)) pss_nil)
      (pss_cons (ps_if (PW.pt (pw_or (pt_cmpR (op_neD hr.units) (pe_lc (own := [("_law_sign", 2)]) (g := (gName 2)) (tt := _) rfl sc__law_read.nd (pi_str (pe_ix ix_list (pv 1) pe_int (fun _ _ => rfl))) (blkOk_by (own := [("_law_sign", 2)]) (N := N__law_read) (sc := (defScope s__law_read)) (by decide +kernel)) (fun _ _ _ _ _ => (pg_name (i := 2) sc__law_read.nd rfl (by first | exact Or.inl rfl | exact Or.inr rfl))) (fun _ _ _ _ _ => pts_one (pt_cmpR op_notIn_sign (pv 2) pe_str rfl)) (fun _ _ _ _ _ => (pv 2))) (pe_lstN pa_nil) (nomark _)) (pw_or1 (PW.pt (pw_and (pt_cmpR op_eq (pe_ix ix_str (pe_ix ix_list (pv 1) pe_int (fun _ _ => rfl)) pe_int (fun _ _ => rfl)) pe_str (nomark _)) (pw_and1 (pt_cmpR op_gt (pe_callB call_len_str (by rfl) T.n_len (by decide +kernel) (pa_cons (pe_ix ix_list (pv 1) pe_int (fun _ _ => rfl)) pa_nil)) pe_int (nomark _)))))))) (pss_one (ps_ret pe_non)) pss_nil)
      (pss_one (ps_ret (pe_tupN (pa_cons (pe_ix ix_list (pv 1) pe_int (fun _ _ => rfl)) (pa_cons (pe_ix ix_list (pv 1) pe_int (fun _ _ => rfl)) (pa_cons (pe_callTy call_int_str (by rfl) T.n_int (by decide +kernel) (pa_cons (pe_ix ix_list (pv 1) pe_int (fun _ _ => rfl)) pa_nil)) pa_nil))))))))), ?_⟩
    walk_at "s"
    refine ⟨⟨_, rfl⟩, _, _, rfl, rfl, (by decide +kernel), by omega, fun p H1 hp s1 h1 => ?_⟩
    have h1 : H1 p = some (.lst ((wds z).map V.str)) := h1
    have hq1 : SqL K H1 p ((wds z).map V.str) := SqL.of h1
    have hw : ∀ x ∈ wds z, x.length ≤ z.length := fun x hx => (split_parts_len x hx).1
    walk_at "s"
    rw [List.length_map]
    refine ifND (fun c1 => ?_) (fun c1 => ?_)
    · walk_at "s"
      refine qN ?_ _ s1
      unfold parseL
      split
      · next a b c e => rw [e] at c1; exact absurd rfl c1
      · rfl
    obtain ⟨w1, w2, w3, ew⟩ : ∃ w1 w2 w3, wds z = [w1, w2, w3] := by
      have hl : (wds z).length = 3 := by have := V.int.inj c1; omega
      match wds z, hl with
      | [w1, w2, w3], _ => exact ⟨w1, w2, w3, rfl⟩
    rw [ew] at h1 hq1 hw
    have l3 := hw w3 (by simp)
    have ep : parseL z = if w1 = empS ∨ w2 = empS ∨ w3 = empS then none else if isFig w3 = true then some (w1, w2, ((NumText.digitsVal w3.cps.toList : Nat) : Int)) else none := by
      unfold parseL
      rw [ew]
    walk_at "s"
    rw [show inV (.str (Str.ofString "")) (List.map V.str [w1, w2, w3]) = decide (empS ∈ [w1, w2, w3]) from inV_str (l := [w1, w2, w3])]
    refine ifD (fun c2 => ?_) (fun c2 => ?_)
    · walk_at "s"
      refine qN ?_ _ s1
      rw [ep, if_pos]
      simp only [List.mem_cons, List.not_mem_nil, or_false] at c2
      rcases c2 with e | e | e
      · exact .inl e.symm
      · exact .inr (.inl e.symm)
      · exact .inr (.inr e.symm)
    have c2' : ¬ (w1 = empS ∨ w2 = empS ∨ w3 = empS) := fun h => c2 (by
      simp only [List.mem_cons, List.not_mem_nil, or_false]
      rcases h with e | e | e
      · exact .inl e.symm
      · exact .inr (.inl e.symm)
      · exact .inr (.inr e.symm))
    rw [if_neg c2'] at ep
    have n3 : w3.cps.toList ≠ [] := fun e => c2' (.inr (.inr (empS_iff.mpr e)))
    walk_at "s"
    refine ⟨_, _, _, _, rfl, rfl, hq1, rfl, ?_⟩
    walk_at "s"
    refine ⟨szl (by omega), ?_⟩
    walk_at "s"
    refine ifD (fun c3 => ?_) (fun c3 => ?_)
    · walk_at "s"
      refine qN ?_ _ s1
      rw [ep, if_neg]
      intro h
      unfold isFig at h
      rw [decide_eq_false (show ¬ w3.length ≤ 13 by omega)] at h
      simp at h
    walk_at "s"
    refine ⟨_, _, _, _, rfl, rfl, hq1, rfl, ?_⟩
    refine ⟨_, rfl, fun D hD => ?_⟩
    have h3 : w3.length ≤ 90000 := by omega
    refine lc_signs (fun c => !digit c) hD h3 (fun v => rfl) (fun c H2 s2 Q2 q2 => ?_) (fun c H2 s2 Q2 q2 => ⟨_, rfl, q2⟩) (fun H2 s2 hDl => ?_)
    · rw [← notin_digit] at q2
      exact ⟨_, rfl, _, _, rfl, rfl, _, rfl, q2⟩
    walk_at "s"
    refine ⟨(by simp), fun D2 H3 nD2 s3 h3' => ?_⟩
    have hf := flat_signs (l := w3.cps.toList.filter fun c => !digit c) fun c hc => hz.2 c ((split_parts_len w3 (by rw [ew]; simp)).2 c (List.mem_filter.mp hc).1)
    refine ⟨_, .list [], .lst (SqL.of (s3 _ _ hDl)) (dpAll_flat hf), .lst (SqL.of h3') .nil, shaped_list hf, shaped_list (xs := []) (fun v hv => by cases hv), ?_⟩
    rw [eqv_nil, isEmpty_all]
    have s13 := Same.trans s1 (Same.trans s2 s3)
    have hq3 := s3.seq (s2.seq hq1)
    have hl0 : 0 < w3.cps.toList.length := List.length_pos_iff.mpr n3
    have e0 : atI w3.cps.toList 0 = some w3.cps.toList[0] := atI_of (by omega) (List.getElem?_eq_getElem hl0)
    have eh : w3.cps.toList.head? = some w3.cps.toList[0] := by rw [List.head?_eq_getElem?, List.getElem?_eq_getElem hl0]
    have el : w3.length = w3.cps.toList.length := len_tl w3
    cases hall : w3.cps.toList.all digit with
    | false =>
      walk_at "s"
      refine ifT1 ?_
      walk_at "s"
      refine qN ?_ _ s13
      rw [ep, if_neg]
      intro h
      rw [fig_all h] at hall; cases hall
    | true =>
      walk_at "s"
      refine ⟨_, _, _, _, rfl, rfl, hq3, rfl, ?_⟩
      walk_at "s"
      refine ⟨_, _, _, rfl, rfl, szl (by omega), e0, ?_⟩
      walk_at "s"
      refine ifD (fun c4 => ?_) (fun c4 => ?_)
      · have e48 : w3.cps.toList[0] = 48 := by
          have := zero_iff.mp c4
          simpa using this
        walk_at "s"
        refine ⟨_, _, _, _, rfl, rfl, hq3, rfl, ?_⟩
        walk_at "s"
        refine ⟨szl (by omega), ?_⟩
        walk_at "s"
        refine ifD (fun c5 => ?_) (fun c5 => ?_)
        · walk_at "s"
          refine qN ?_ _ s13
          rw [ep, if_neg]
          intro h
          unfold isFig at h
          rw [eh, e48, if_pos rfl] at h
          simp only [Bool.and_eq_true, decide_eq_true_eq] at h
          have h2 : w3.cps.toList.length = 1 := by rw [h.2]; rfl
          omega
        · have e1 : w3.cps.toList = [48] := by
            match hm : w3.cps.toList, hl0, e48 with
            | [y], _, h => exact congrArg (fun q => [q]) h
            | y :: y2 :: ys, _, _ => rw [hm] at el; simp at el; omega
          have fg : isFig w3 = true := by
            unfold isFig
            rw [e1]
            rw [decide_eq_true (show 1 ≤ w3.length by omega), decide_eq_true (show w3.length ≤ 13 by omega)]; rfl
          rw [if_pos fg] at ep
          obtain ⟨fi, fl⟩ := fig_int fg
          walk_at "s"
          refine ⟨_, _, _, _, rfl, rfl, hq3, rfl, ?_⟩
          walk_at "s"
          refine ⟨_, _, _, _, rfl, rfl, hq3, rfl, ?_⟩
          walk_at "s"
          refine ⟨_, _, _, _, rfl, rfl, hq3, rfl, ?_⟩
          walk_at "s"
          refine ⟨_, _, rfl, fi, fl, ?_⟩
          walk_at "s"
          refine ⟨(by simp), fun t H4 nt s4 h4 => ?_⟩
          exact q _ ep t H4 (s13.free nt) (Same.trans s13 s4) h4
      · have e48 : ¬ w3.cps.toList[0] = 48 := fun z1 => c4 (zero_iff.mpr (by rw [z1]))
        have fg : isFig w3 = true := by
          unfold isFig
          rw [decide_eq_true (show 1 ≤ w3.length by omega), decide_eq_true (show w3.length ≤ 13 by omega), eh, if_neg (fun h => e48 (Option.some.inj h)), hall]; rfl
        rw [if_pos fg] at ep
        obtain ⟨fi, fl⟩ := fig_int fg
        walk_at "s"
        refine ⟨_, _, _, _, rfl, rfl, hq3, rfl, ?_⟩
        walk_at "s"
        refine ⟨_, _, _, _, rfl, rfl, hq3, rfl, ?_⟩
        walk_at "s"
        refine ⟨_, _, _, _, rfl, rfl, hq3, rfl, ?_⟩
        walk_at "s"
        refine ⟨_, _, rfl, fi, fl, ?_⟩
        walk_at "s"
        refine ⟨(by simp), fun t H4 nt s4 h4 => ?_⟩
        exact q _ ep t H4 (s13.free nt) (Same.trans s13 s4) h4
end
end Fb

namespace Fb
open PySem PySem.Spec PyProof.Rows L2
local macro_rules | `(tactic| walk_at "s") => `(tactic| repeat (first | refine ⟨_, rfl, ?_⟩ | refine ⟨_, _, rfl, rfl, ?_⟩ | refine ⟨_, _, rfl, Or.inl (by assumption), ?_⟩ | refine ⟨rfl, ?_⟩ | refine ⟨(by decide : (0 : Int) < _), ?_⟩ | refine ⟨⟨by decide, by decide⟩, ?_⟩ | refine ⟨_, _, _, rfl, (by assumption), (by first | decide | omega), ?_⟩))
theorem up_ascii : ∀ c < 128, (Unicode.upperOf c).length = 1 ∧ (Unicode.upperOf c).all (· < 128) = true := by decide +kernel
theorem mapIdx_const {α β : Type} {g : α → β} : ∀ (l : List α), l.mapIdx (fun _ c => g c) = l.map g
  | [] => rfl
  | x :: l => by rw [List.mapIdx_cons, List.map_cons, mapIdx_const l]
theorem flat_up : ∀ (l : List Nat), (∀ c ∈ l, c < 128) → (l.map fun c => Unicode.upperOf c).flatten.length = l.length ∧ ∀ d ∈ (l.map fun c => Unicode.upperOf c).flatten, d < 128
  | [], _ => ⟨rfl, fun d h => by cases h⟩
  | c :: l, h => by
    obtain ⟨h1, h2⟩ := up_ascii c (h c List.mem_cons_self)
    obtain ⟨h3, h4⟩ := flat_up l fun d hd => h d (List.mem_cons_of_mem _ hd)
    rw [List.map_cons, List.flatten_cons]
    refine ⟨by rw [List.length_append, h1, h3, List.length_cons]; omega, fun d hd => ?_⟩
    rcases List.mem_append.mp hd with hd | hd
    · exact of_decide_eq_true (List.all_eq_true.mp h2 d hd)
    · exact h4 d hd
theorem okS_upper {n : Nat} {z : Str} (h : okS n z) (ha : ∀ c ∈ z.cps.toList, c < 128) : okS n (Txt.upper z) := by
  have e : (Txt.upper z).cps.toList = (z.cps.toList.map fun c => Unicode.upperOf c).flatten := by
    show (placed z fun x c => Unicode.upperOf c).toList = _
    unfold placed
    rw [Array.toList_flatten, Array.toList_mapIdx, mapIdx_const (g := fun c => (Unicode.upperOf c).toArray), List.map_map]
    rfl
  obtain ⟨h1, h2⟩ := flat_up z.cps.toList ha
  refine ⟨?_, fun c hc => ?_⟩
  · rw [len_tl, e, h1, ← len_tl]; exact h.1
  · rw [e] at hc
    exact Nat.lt_trans (h2 c hc) (by decide)
theorem fig_codes {z : Str} (h : isFig z = true) : ∀ c ∈ z.cps.toList, c < 1114112 := fun c hc => by
  unfold isFig at h
  simp only [Bool.and_eq_true] at h
  have h2 := h.2
  split at h2
  · have := of_decide_eq_true h2
    rw [this] at hc
    rw [List.mem_singleton.mp hc]; decide
  · have := List.all_eq_true.mp h2 c hc
    unfold digit at this
    simp only [Bool.and_eq_true, decide_eq_true_eq] at this
    omega
theorem line_ok {r : Row} (g : GoodRow r) : okS 1000 (lineOf r) := by
  have nm : ∀ {z : Str}, isP (.str z) = true → okS 12 z := fun {z} h => by
    have hl := (isP_len h).2
    rcases isP_ask h with h | ⟨b, h⟩ | ⟨i, h⟩ | ⟨y, h, hy⟩
    · cases h
    · cases h
    · cases h
    · cases h; exact ⟨hl, hy.2⟩
  have bl : okS 1 blankS := ⟨by decide +kernel, by decide +kernel⟩
  obtain ⟨f1, _, f3, _, _⟩ := fig_num g.c
  have fo : okS 13 (numS r.2.2) := ⟨f3, fig_codes f1⟩
  exact (((((nm g.p1).app bl).app (nm g.p2)).app bl).app fo).mono (by decide)

theorem line_ascii {r : Row} (g : GoodRow r) : ∀ c ∈ (lineOf r).cps.toList, c < 128 := fun c hc => by
  have nm : ∀ {z : Str}, isP (.str z) = true → ∀ c ∈ z.cps.toList, c < 128 := fun {z} h c hc => by
    have h1 : (decide (1 ≤ z.length) && decide (z.length ≤ 12) && z.cps.toList.all letter) = true := h
    simp only [Bool.and_eq_true] at h1
    have := List.all_eq_true.mp h1.2 c hc
    unfold letter at this
    simp only [Bool.and_eq_true, decide_eq_true_eq] at this
    omega
  have fg : ∀ c ∈ (numS r.2.2).cps.toList, c < 128 := fun c hc => by
    have := List.all_eq_true.mp (fig_all (fig_num g.c).1) c hc
    unfold digit at this
    simp only [Bool.and_eq_true, decide_eq_true_eq] at this
    omega
  have bl : ∀ c ∈ blankS.cps.toList, c < 128 := by decide +kernel
  have e : (lineOf r).cps.toList = r.1.cps.toList ++ blankS.cps.toList ++ r.2.1.cps.toList ++ blankS.cps.toList ++ (numS r.2.2).cps.toList := by
    unfold lineOf
    show TL.tl _ = _
    simp only [TL.tl_append]
  rw [e] at hc
  simp only [List.mem_append] at hc
  rcases hc with (((h | h) | h) | h) | h
  · exact nm g.p1 c h
  · exact bl c h
  · exact nm g.p2 c h
  · exact bl c h
  · exact fg c h
theorem pick_list {H : Hp} {L : Addr} {xs : List V} {i : Int} (_ : H L = some (.lst xs)) (h0 : 0 ≤ i) (h1 : i < xs.length) : ∃ v, atI xs i = some v ∧ v ∈ xs := atI_mem h0 h1
def spTurned : Sp := fun vs H Q _ => ∃ (r : Row) (c : Int) (y : Str), vs = [.str (lineOf r), .int c, .str y] ∧ GoodRow r ∧ okS 1000 y ∧ ∀ w, okS 1000 w → ∀ H', Same H H' → Q (.str w) H'
abbrev s__law_turned : Stmt := topS 25
abbrev N__law_turned : List Str := ["_law_line", "_law_cell", "_law_ahead", "_law_at", "_law_first", "_law_price", "_law_sign", "_law_begin", "_law_place"]
theorem sc__law_turned : FnScope N__law_turned ["_law_line", "_law_cell", "_law_ahead"] (defScope s__law_turned) := ⟨rfl, rfl, rfl, by decide +kernel, rfl, by decide +kernel, by decide +kernel⟩
section
variable {Pg : Program} {w : World} {K : PySem.W.Frag} {mg : Str → Option Value} {base : Heap} {a : Ads}
theorem ok_turned {f : Addr} {fd : FuncData} (F : Fun K "_law_turned" "_law_turned" s__law_turned f fd) (T : Txt K mg a) : FnOk Pg w K mg base (L2N.CX Pg w) 1 f fd ["_law_line", "_law_cell", "_law_ahead"] spTurned := by
  refine F.okN sc__law_turned (fun vs H Q E h => ?_) (fun cdv A outer s H vs Q E hr h => ?_)
  · obtain ⟨_, _, _, rfl, _⟩ := h
    rfl
  · obtain ⟨r, c, y, rfl, g, hy, q⟩ := h
    have ll := line_len g
    have lo := line_ok g
    have la := line_ascii g
    obtain ⟨f1, f2, f3, f4, f5⟩ := fig_num g.c
    have ws : wds (lineOf r) = [r.1, r.2.1, numS r.2.2] := by
      unfold lineOf
      exact wds_three (isP_noblank g.p1) (isP_noblank g.p2) f5
    have l1 := (isP_len g.p1).2
    have l2 := (isP_len g.p2).2
    refine ⟨_, (pss_cons (ps_set (i := 3) sc__law_turned.nd rfl (by first | exact Or.inl rfl | exact Or.inr rfl) (pe_op op_mod (pe_op op_fdiv (pv 1) pe_int) (pe_op op_add (pe_callB call_len_str (by rfl) T.n_len (by decide +kernel) (pa_cons (pv 0) pa_nil)) pe_int)))
      (pss_cons (ps_set (i := 4) sc__law_turned.nd rfl (by first | exact Or.inl rfl | exact Or.inr rfl) (pe_ix ix_list (pe_splitN (pv 0) pe_str) pe_int (fun _ _ => rfl)))
      (pss_cons (ps_set (i := 5) sc__law_turned.nd rfl (by first | exact Or.inl rfl | exact Or.inr rfl) (pe_ix ix_list (pe_splitN (pv 0) pe_str) pe_int (fun _ _ => rfl)))
      (pss_cons (ps_set (i := 6) sc__law_turned.nd rfl (by first | exact Or.inl rfl | exact Or.inr rfl) (pe_ix ix_str pe_str (pe_op op_mod (pe_op op_fdiv (pv 1) pe_int) pe_int) (fun _ _ => rfl)))
      (pss_cons (ps_set (i := 7) sc__law_turned.nd rfl (by first | exact Or.inl rfl | exact Or.inr rfl) (pe_slice sl_str (pv 0) po_none (po_some (pe_op op_sub (pe_callB call_len_str (by rfl) T.n_len (by decide +kernel) (pa_cons (pv 0) pa_nil)) (pe_callB call_len_str (by rfl) T.n_len (by decide +kernel) (pa_cons (pv 5) pa_nil))))))
      (pss_cons (ps_set (i := 8) sc__law_turned.nd rfl (by first | exact Or.inl rfl | exact Or.inr rfl) (pe_op op_mod (pe_op op_fdiv (pv 1) pe_int) (pe_op op_add (pe_callB call_len_str (by rfl) T.n_len (by decide +kernel) (pa_cons (pv 5) pa_nil)) pe_int)))
      (pss_one (ps_ret (pe_ix ix_list (pe_lstN (pa_cons (pe_op op_add_str (pe_op op_add_str (pv 4) pe_str) (pv 5)) (pa_cons (pe_op op_add_str (pe_op op_add_str (pv 0) pe_str) (pv 4)) (pa_cons (pe_op op_add_str (pe_op op_add_str (pe_slice sl_str (pv 0) po_none (po_some (pv 3))) pe_str) (pe_slice sl_str (pv 0) (po_some (pv 3)) po_none)) (pa_cons (pe_op op_add_str (pe_op op_add_str (pv 7) pe_str) (pv 5)) (pa_cons (pe_op op_add_str (pv 7) (pe_op op_repS pe_str (pe_op op_add pe_int (pe_op op_mod (pv 3) pe_int)))) (pa_cons (pe_op op_add_str (pe_op op_add_str (pe_op op_add_str (pv 7) (pe_slice sl_str (pv 5) po_none (po_some (pv 8)))) (pv 6)) (pe_slice sl_str (pv 5) (po_some (pv 8)) po_none)) (pa_cons (pv 7) (pa_cons (pe_bm0 PySem.F.plainAttrs_str PySem.F.slot_str_upper PySem.F.type_str_upper mt_upper (pv 0)) (pa_cons (pe_op op_add_str (pe_op op_add_str (pe_op op_add_str (pe_op op_add_str (pv 4) pe_str) (pv 4)) pe_str) (pv 5)) (pa_cons (pv 2) (pa_cons (pe_op op_add_str (pe_op op_add_str (pe_slice sl_str (pv 0) po_none (po_some (pv 3))) (pv 6)) (pe_slice sl_str (pv 0) (po_some (pv 3)) po_none)) pa_nil)))))))))))) (pe_op op_mod (pv 1) pe_int) (fun _ _ => rfl)))))))))), ?_⟩
    walk_at "s"
    have zl : (lineOf r).length ≤ 39 := ll
    refine ⟨szl (by omega), ?_⟩
    walk_at "s"
    refine ⟨by omega, ?_⟩
    walk_at "s"
    refine ⟨⟨_, rfl⟩, _, _, rfl, rfl, (by decide +kernel), by omega, fun p H1 hp s1 h1 => ?_⟩
    have h1 : H1 p = some (.lst ((wds (lineOf r)).map V.str)) := h1
    rw [ws] at h1
    refine ⟨_, _, _, _, rfl, rfl, SqL.of h1, rfl, ?_⟩
    walk_at "s"
    refine ⟨⟨_, rfl⟩, _, _, rfl, rfl, (by decide +kernel), by omega, fun p2 H2 hp2 s2 h2 => ?_⟩
    have h2 : H2 p2 = some (.lst ((wds (lineOf r)).map V.str)) := h2
    rw [ws] at h2
    refine ⟨_, _, _, _, rfl, rfl, SqL.of h2, rfl, ?_⟩
    walk_at "s"
    have sg : ∃ sc : Nat, atI (Str.ofString " x-+._A\n\t").cps.toList (c / 11 % 9) = some sc ∧ sc < 128 := by
      have e : (Str.ofString " x-+._A\n\t").cps.toList = [32, 120, 45, 43, 46, 95, 65, 10, 9] := by decide +kernel
      rw [e]
      obtain ⟨k, ek, lk⟩ := modN (c / 11) (n := 9) (by decide)
      have ek : c / 11 % 9 = (k : Int) := ek
      refine ⟨[32, 120, 45, 43, 46, 95, 65, 10, 9][k], ?_, ?_⟩
      · rw [ek]; exact atI_of (by omega) (by rw [Int.toNat_natCast]; exact List.getElem?_eq_getElem lk)
      · have : ∀ v ∈ [32, 120, 45, 43, 46, 95, 65, 10, 9], v < 128 := by decide
        exact this _ (List.getElem_mem lk)
    obtain ⟨sc, hsc, lsc⟩ := sg
    refine ⟨_, _, _, rfl, rfl, (by decide +kernel), hsc, ?_⟩
    walk_at "s"
    refine ⟨szl (by omega), ?_⟩
    walk_at "s"
    refine ⟨szl (by omega), ?_⟩
    walk_at "s"
    refine ⟨szl (by omega), ?_⟩
    walk_at "s"
    refine ⟨szl (by omega), ?_⟩
    walk_at "s"
    refine ⟨by omega, ?_⟩
    dsimp only
    have at0 : 0 ≤ c / 99 % (((lineOf r).length : Int) + 1) := Int.emod_nonneg _ (by omega)
    have at1 : c / 99 % (((lineOf r).length : Int) + 1) < (((lineOf r).length : Int) + 1) := Int.emod_lt_of_pos _ (by omega)
    have ok0 : okS 39 (lineOf r) := ⟨ll, lo.2⟩
    have okF : okS 12 r.1 := by
      have hl := l1
      rcases isP_ask g.p1 with h | ⟨b, h⟩ | ⟨i, h⟩ | ⟨y, h, hy⟩
      · cases h
      · cases h
      · cases h
      · cases h; exact ⟨hl, hy.2⟩
    have okP : okS 13 (numS r.2.2) := ⟨f3, fig_codes f1⟩
    have okSg : okS 1 (⟨#[sc]⟩ : Str) := okS.one (by omega)
    have okU : okS 39 (Txt.upper (lineOf r)) := okS_upper ok0 la
    have okB : ∀ a b, okS 39 (cutS (lineOf r) a b) := fun a b => ok0.cut a b
    have okC : ∀ a b, okS 13 (cutS (numS r.2.2) a b) := fun a b => okP.cut a b
    have ok1 := okB none (some (c / 99 % (((lineOf r).length : Int) + 1)))
    have ok2 := okB (some (c / 99 % (((lineOf r).length : Int) + 1))) none
    have ok3 := okB none (some (((lineOf r).length : Int) - ((numS r.2.2).length : Int)))
    have ok4 := okC none (some (c / 99 % (((numS r.2.2).length : Int) + 1)))
    have ok5 := okC (some (c / 99 % (((numS r.2.2).length : Int) + 1))) none
    have k1 := ok1.1
    have k2 := ok2.1
    have k3 := ok3.1
    have k4 := ok4.1
    have k5 := ok5.1
    have k6 := okF.1
    have k7 := okP.1
    have k8 := hy.1
    have lb1 : (Str.ofString " ").length = 1 := by decide +kernel
    have lb0 : (Str.ofString "0").length = 1 := by decide +kernel
    have lb9 : (Str.ofString "9").length = 1 := by decide +kernel
    have lbs : (⟨#[sc]⟩ : Str).length = 1 := rfl
    walk_at "s"
    repeat (first | (refine ⟨szl (by (try simp only [len_app, lb1, lb0, lbs]); omega), ?_⟩; walk_at "s"))
    have m2 : 0 ≤ c / 99 % (((lineOf r).length : Int) + 1) % 2 := by omega
    have m3 : c / 99 % (((lineOf r).length : Int) + 1) % 2 < 2 := by omega
    have ok9 : okS 1 (Str.ofString "9") := ⟨by decide +kernel, by decide +kernel⟩
    have okM : okS 14 (Txt.mul (Str.ofString "9") (13 + c / 99 % (((lineOf r).length : Int) + 1) % 2)) := (ok9.mul (by omega)).mono (by omega)
    have k9 := okM.1
    refine ⟨mulOk_small (by omega) (by omega) (by rw [lb9]; decide), ?_⟩
    walk_at "s"
    repeat (first | (refine ⟨szl (by (try simp only [len_app, lb1, lb0, lbs]); omega), ?_⟩; walk_at "s"))
    refine ⟨by omega, ?_⟩
    walk_at "s"
    repeat (first | (refine ⟨szl (by (try simp only [len_app, lb1, lb0, lbs]); omega), ?_⟩; walk_at "s"))
    refine ⟨(by simp), fun L H3 nL s3 hL => ?_⟩
    obtain ⟨k, ek, lk⟩ := modN c (n := 11) (by decide)
    have okb : okS 1 (Str.ofString " ") := ⟨by decide +kernel, by decide +kernel⟩
    have ok00 : okS 1 (Str.ofString "0") := ⟨by decide +kernel, by decide +kernel⟩
    obtain ⟨v, hv, hm⟩ := pick_list hL (i := c % 11) (by omega) (by show _ < ((11 : Nat) : Int); omega)
    walk_at "s"
    refine ⟨_, _, _, _, rfl, rfl, SqL.of hL, hv, ?_⟩
    have s13 := Same.trans s1 (Same.trans s2 s3)
    simp only [List.mem_cons, List.not_mem_nil, or_false] at hm
    rcases hm with rfl | rfl | rfl | rfl | rfl | rfl | rfl | rfl | rfl | rfl | rfl
    · exact q _ (((okF.app okb).app okP).mono (by decide)) _ s13
    · exact q _ (((ok0.app okb).app okF).mono (by decide)) _ s13
    · exact q _ (((ok1.app okb).app ok2).mono (by decide)) _ s13
    · exact q _ (((ok3.app ok00).app okP).mono (by decide)) _ s13
    · exact q _ ((ok3.app okM).mono (by decide)) _ s13
    · exact q _ ((((ok3.app ok4).app okSg).app ok5).mono (by decide)) _ s13
    · exact q _ (ok3.mono (by decide)) _ s13
    · exact q _ (okU.mono (by decide)) _ s13
    · exact q _ (((((okF.app okb).app okF).app okb).app okP).mono (by decide)) _ s13
    · exact q _ hy _ s13
    · exact q _ (((ok1.app okSg).app ok2).mono (by decide)) _ s13
end
end Fb

namespace Fb
open PySem PySem.Spec PyProof.Rows L2
local macro_rules | `(tactic| walk_at "s") => `(tactic| repeat (first | refine ⟨_, rfl, ?_⟩ | refine ⟨_, _, rfl, rfl, ?_⟩ | refine ⟨_, _, rfl, Or.inl (by assumption), ?_⟩ | refine ⟨rfl, ?_⟩ | refine ⟨(by decide : (0 : Int) < _), ?_⟩ | refine ⟨⟨by decide, by decide⟩, ?_⟩ | refine ⟨_, _, _, rfl, (by assumption), (by first | decide | omega), ?_⟩))
def spLines12 (K : PySem.W.Frag) : Sp := fun vs H Q _ => ∃ (l r : Addr) (ns : List Int) (ts : List Addr) (rs : List Row), vs = [.ref l, .ref r] ∧ SqL K H l (ns.map V.int) ∧ SqL K H r (ts.map V.ref) ∧ Paired (IsRow H) ts rs ∧ GoodRows rs ∧ rs.length ≤ 160 ∧
  ∀ (D : Addr) (H' : Hp) (zs : List Str), H D = none → Same H H' → H' D = some (.lst (zs.map V.str)) → (∀ z ∈ zs, okS 1000 z) → zs.length ≤ 170 → Q (.ref D) H'
abbrev s__law_lines : Stmt := topS 26
abbrev N__law_lines : List Str := ["_law_script", "_law_rows_here", "_law_lines_here", "_law_row", "_law_at"]
theorem sc__law_lines : FnScope N__law_lines ["_law_script", "_law_rows_here"] (defScope s__law_lines) := ⟨rfl, rfl, rfl, by decide +kernel, rfl, by decide +kernel, by decide +kernel⟩
section
variable {Pg : Program} {w : World} {K : PySem.W.Frag} {mg : Str → Option Value} {base : Heap} {a : Ads}
theorem ok_lines12 {f : Addr} {fd : FuncData} (F : Fun K "_law_lines" "_law_lines" s__law_lines f fd) (T : Txt K mg a) (D_cell_at : Dn Pg w K mg base 1 "_law_cell_at" ["_law_script", "_law_k"] (spCell K)) (D_turned : Dn Pg w K mg base 1 "_law_turned" ["_law_line", "_law_cell", "_law_ahead"] spTurned) : FnOk Pg w K mg base (L2N.CX Pg w) 2 f fd ["_law_script", "_law_rows_here"] (spLines12 K) := by
  refine F.okN sc__law_lines (fun vs H Q E h => ?_) (fun cdv A outer s H vs Q E hr h => ?_)
  · obtain ⟨_, _, _, _, _, rfl, _⟩ := h
    rfl
  · obtain ⟨l, r, ns, ts, rs, rfl, hs, hq, hpr, hg, hlen, q⟩ := h
    have lts := Paired.length hpr
    refine ⟨_, (pss_cons (ps_setLc (i := 2) (own := [("_law_row", 3)]) (g := (gName 3)) (tt := tYes) rfl sc__law_lines.nd rfl rfl (sw_true rfl rfl rfl (by decide +kernel)) (pi_list (pv 1)) (blkOk_by (own := [("_law_row", 3)]) (N := N__law_lines) (sc := (defScope s__law_lines)) (by decide +kernel)) (fun _ _ _ _ _ => (pg_name (i := 3) sc__law_lines.nd rfl (by first | exact Or.inl rfl | exact Or.inr rfl))) (fun _ _ _ _ _ => pts_nil) (fun _ _ _ _ _ => (pe_op op_add_str (pe_op op_add_str (pe_op op_add_str (pe_op op_add_str (pe_ix (ix_tupS (K := K)) (pv 3) pe_int (fun _ _ => rfl)) pe_str) (pe_ix (ix_tupS (K := K)) (pv 3) pe_int (fun _ _ => rfl))) pe_str) (pe_callTy call_str_int (by rfl) T.n_str (by decide +kernel) (pa_cons (pe_ix (ix_tupS (K := K)) (pv 3) pe_int (fun _ _ => rfl)) pa_nil)))))
      (C8.pss_cut (ps_if (PW.pt (pw_and (pt_cmpR op_gt (pe_op op_mod (pe_fnS D_cell_at (hr.mono (by decide)) passC (pa_cons (pv 0) (pa_cons pe_int pa_nil))) pe_int) pe_int (nomark _)) (pw_and1 (pt_cmpR op_gt (pe_callB call_len_seq (by rfl) T.n_len (by decide +kernel) (pa_cons (pv 2) pa_nil)) pe_int (nomark _))))) (pss_cons (ps_set (i := 4) sc__law_lines.nd rfl (by first | exact Or.inl rfl | exact Or.inr rfl) (pe_op op_mod (pe_fnS D_cell_at (hr.mono (by decide)) passC (pa_cons (pv 0) (pa_cons pe_int pa_nil))) (pe_callB call_len_seq (by rfl) T.n_len (by decide +kernel) (pa_cons (pv 2) pa_nil))))
        (pss_cons (ps_asg (pe_fnS D_turned (hr.mono (by decide)) passC (pa_cons (pe_ix ix_list (pv 2) (pv 4) (fun _ _ => rfl)) (pa_cons (pe_fnS D_cell_at (hr.mono (by decide)) passC (pa_cons (pv 0) (pa_cons pe_int pa_nil))) (pa_cons (pe_ix ix_list (pv 2) (pe_op op_mod (pe_fnS D_cell_at (hr.mono (by decide)) passC (pa_cons (pv 0) (pa_cons pe_int pa_nil))) (pe_op op_add (pv 4) pe_int)) (fun _ _ => rfl)) pa_nil)))) (pg_sub (pv 2) (pv 4) set_listN))
        (pss_one (ps_if (pt_cmpR op_eq (pe_op op_mod (pe_op op_fdiv (pe_fnS D_cell_at (hr.mono (by decide)) passC (pa_cons (pv 0) (pa_cons pe_int pa_nil))) pe_int) pe_int) pe_int (nomark _)) (pss_one (ps_expr (pe_bm PySem.F.plainAttrs_list PySem.F.slot_list_append PySem.F.type_list_append mt_appendN (pv 2) (pa_cons pe_str pa_nil)))) pss_nil)))) pss_nil)
      (C8.pss_cut (ps_if (PW.pt (pw_and (pt_cmpR op_eq (pe_callB call_len_seq (by rfl) T.n_len (by decide +kernel) (pa_cons (pv 1) pa_nil)) pe_int (nomark _)) (pw_and1 (pt_cmpR op_eq (pe_op op_mod (pe_op op_fdiv (pe_fnS D_cell_at (hr.mono (by decide)) passC (pa_cons (pv 0) (pa_cons pe_int pa_nil))) pe_int) pe_int) pe_int (nomark _))))) (pss_one (ps_expr (pe_bm PySem.F.plainAttrs_list PySem.F.slot_list_append PySem.F.type_list_append mt_appendN (pv 2) (pa_cons pe_str pa_nil)))) pss_nil)
      (pss_one (ps_ret (pv 2)))))), ?_⟩
    walk_at "s"
    refine ⟨⟨_, hq⟩, fun D hD => ?_⟩
    refine lc_listR (K := K) (xs := ts.map V.ref) (fun i v _ => ∃ r, rs[i]? = some r ∧ v = .str (lineOf r)) (fun _ _ _ _ _ h => h) hD hq (by rw [List.length_map]; omega) (fun v => rfl) ?_ ?_
    · intro i y H3 acc hi s3 hDl Q3 q3
      rw [List.getElem?_map] at hi
      obtain ⟨u, hu1, rfl⟩ := Option.map_eq_some_iff.mp hi
      obtain ⟨rr, hr1, hrow⟩ := paired_at hpr hu1
      have hrow3 : IsRow H3 u rr := s3 _ _ hrow
      have gr := hg.ok rr (List.mem_of_getElem? hr1)
      have hll := line_len gr
      have l1 := (isP_len gr.p1).2
      have l2 := (isP_len gr.p2).2
      obtain ⟨_, _, l3, _, _⟩ := fig_num gr.c
      have lb : blankS.length = 1 := by decide +kernel
      walk_at "s"
      refine ⟨_, _, _, _, rfl, rfl, SqT.of hrow3, rfl, ?_⟩
      walk_at "s"
      refine ⟨szl (by rw [lb]; omega), ?_⟩
      walk_at "s"
      refine ⟨_, _, _, _, rfl, rfl, SqT.of hrow3, rfl, ?_⟩
      walk_at "s"
      refine ⟨szl (by rw [len_app, lb]; omega), ?_⟩
      walk_at "s"
      refine ⟨szl (by rw [len_app, len_app, lb]; omega), ?_⟩
      walk_at "s"
      refine ⟨_, _, _, _, rfl, rfl, SqT.of hrow3, rfl, ?_⟩
      walk_at "s"
      refine ⟨log_price gr.c, ?_⟩
      walk_at "s"
      refine ⟨szl (by rw [len_app, len_app, len_app, lb]; show _ + (numS rr.2.2).length ≤ _; omega), ?_⟩
      exact q3 _ _ (Same.refl _) ⟨rr, hr1, rfl⟩
    intro H3 ys s3 hDl hl hr3
    rw [List.length_map] at hl
    have ey : ys = (rs.map lineOf).map V.str := by
      refine List.ext_getElem? fun i => ?_
      rw [List.map_map, List.getElem?_map]
      cases hy : ys[i]? with
      | none =>
        have h3 := List.getElem?_eq_none_iff.mp hy
        rw [List.getElem?_eq_none (by omega)]; rfl
      | some v =>
        obtain ⟨rr, hr1, rfl⟩ := hr3 i v hy
        rw [hr1]; rfl
    rw [ey] at hDl
    have hs3 := s3.seq hs
    have hD3 : SqL K H3 D ((rs.map lineOf).map V.str) := SqL.of hDl
    walk_at "s"
    have lok : ∀ z ∈ rs.map lineOf, okS 1000 z := fun z hz => by
      obtain ⟨rr, hr1, rfl⟩ := List.mem_map.mp hz
      exact line_ok (hg.ok rr hr1)
    have lzs : (rs.map lineOf).length = rs.length := List.length_map _
    have okab : okS 1000 (Str.ofString "a b") := ⟨by decide +kernel, by decide +kernel⟩
    have okxy : okS 1000 (Str.ofString "xxxx yyyy 5") := ⟨by decide +kernel, by decide +kernel⟩
    refine ⟨fun σ' H' => ∃ (zs : List Str) (v4 : Option V), σ' = [some (.ref l), some (.ref r), some (.ref D), none, v4] ∧ Same H H' ∧ H' D = some (.lst (zs.map V.str)) ∧ (∀ z ∈ zs, okS 1000 z) ∧ zs.length ≤ 161, ?_, ?_⟩
    · walk_at "s"
      refine ifD (fun c1 => ?_) (fun c1 => ⟨_, none, rfl, s3, hDl, lok, by omega⟩)
      walk_at "s"
      rw [List.length_map]
      refine ifD (fun c2 => ?_) (fun c2 => ⟨_, none, rfl, s3, hDl, lok, by omega⟩)
      walk_at "s"
      rw [List.length_map]
      refine ⟨by omega, ?_⟩
      obtain ⟨at_, ea, la⟩ := modN (cel ns 3) (n := (rs.map lineOf).length) (by omega)
      walk_at "s"
      dsimp only
      rw [ea]
      obtain ⟨bt, eb, lb2⟩ := modN (cel ns 5) (n := at_ + 1) (by omega)
      have eb : cel ns 5 % ((at_ : Int) + 1) = (bt : Int) := by rw [← eb]; rfl
      have lr : at_ < rs.length := by omega
      have lat : ∀ k, k < rs.length → atI ((rs.map lineOf).map V.str) (k : Int) = some (.str (lineOf (rs[k]!))) := fun k hk => by
        refine atI_of (by omega) ?_
        rw [Int.toNat_natCast, List.getElem?_map, List.getElem?_map, List.getElem?_eq_getElem hk, List.getElem!_eq_getElem?_getD, List.getElem?_eq_getElem hk]
        rfl
      have gk : ∀ k, k < rs.length → GoodRow (rs[k]!) := fun k hk => by
        rw [List.getElem!_eq_getElem?_getD, List.getElem?_eq_getElem hk]
        exact hg.ok _ (List.getElem_mem hk)
      refine ⟨_, _, _, _, rfl, rfl, hD3, lat at_ lr, ?_⟩
      walk_at "s"
      refine ⟨by omega, ?_⟩
      dsimp only
      rw [eb]
      walk_at "s"
      refine ⟨_, _, _, _, rfl, rfl, hD3, lat bt (by omega), ?_⟩
      refine ⟨rs[at_]!, _, _, rfl, gk at_ lr, line_ok (gk bt (by omega)), fun w hw H4 s4 => ?_⟩
      have hD4 := s4 _ _ hDl
      walk_at "s"
      refine ⟨D, _, _, at_, rfl, rfl, hD4, ixN_of (by omega) (by rw [List.length_map]; omega), fun H5 s5 h5 => ?_⟩
      have h5 : H5 D = some (.lst (((rs.map lineOf).set at_ w).map V.str)) := by rw [h5, List.map_set]
      have ok5 : ∀ z ∈ (rs.map lineOf).set at_ w, okS 1000 z := fun z hz => by
        rcases List.mem_or_eq_of_mem_set hz with h | h
        · exact lok z h
        · rw [h]; exact hw
      have l5 : ((rs.map lineOf).set at_ w).length = rs.length := by rw [List.length_set]; exact lzs
      have s05 : Same H H5 := same_mutB (Same.trans s3 s4) hD s5
      have hs5 := s05.seq hs
      walk_at "s"
      refine ifD (fun c3 => ?_) (fun c3 => ⟨_, _, rfl, s05, h5, ok5, by omega⟩)
      walk_at "s"
      refine ⟨.inl ⟨rfl, _, SqL.of h5⟩, ?_⟩
      walk_at "s"
      refine ⟨D, _, _, rfl, rfl, h5, by rw [List.length_map]; omega, fun H6 s6 h6 => ?_⟩
      refine ⟨((rs.map lineOf).set at_ w) ++ [Str.ofString "a b"], _, rfl, same_mutB s05 hD s6, by rw [h6, List.map_append]; rfl, fun z hz => ?_, by rw [List.length_append, l5]; show _ + 1 ≤ _; omega⟩
      rcases List.mem_append.mp hz with h | h
      · exact ok5 z h
      · rw [List.mem_singleton.mp h]; exact okab
    rintro σ1 H4 ⟨zs, v4, rfl, s4, hD4, oks, lz⟩
    have hs4 := s4.seq hs
    have hq4 := s4.seq hq
    refine ⟨fun σ' H' => ∃ (zs : List Str), σ' = [some (.ref l), some (.ref r), some (.ref D), none, v4] ∧ Same H H' ∧ H' D = some (.lst (zs.map V.str)) ∧ (∀ z ∈ zs, okS 1000 z) ∧ zs.length ≤ 162, ?_, ?_⟩
    · walk_at "s"
      rw [List.length_map]
      refine ifD (fun c1 => ?_) (fun c1 => ⟨zs, rfl, s4, hD4, oks, by omega⟩)
      walk_at "s"
      refine ifD (fun c2 => ?_) (fun c2 => ⟨zs, rfl, s4, hD4, oks, by omega⟩)
      walk_at "s"
      refine ⟨.inl ⟨rfl, _, SqL.of hD4⟩, ?_⟩
      walk_at "s"
      refine ⟨D, _, _, rfl, rfl, hD4, by rw [List.length_map]; omega, fun H6 s6 h6 => ?_⟩
      refine ⟨zs ++ [Str.ofString "xxxx yyyy 5"], rfl, same_mutB s4 hD s6, by rw [h6, List.map_append]; rfl, fun z hz => ?_, by rw [List.length_append]; show _ + 1 ≤ _; omega⟩
      rcases List.mem_append.mp hz with h | h
      · exact oks z h
      · rw [List.mem_singleton.mp h]; exact okxy
    · rintro σ2 H5 ⟨zs2, rfl, s5, hD5, oks5, lz5⟩
      walk_at "s"
      exact q D H5 zs2 hD s5 hD5 oks5 (by omega)
end
end Fb

namespace Fb
open PySem PySem.Spec PyProof.Rows L2
local macro_rules | `(tactic| walk_at "s") => `(tactic| repeat (first | refine ⟨_, rfl, ?_⟩ | refine ⟨_, _, rfl, rfl, ?_⟩ | refine ⟨_, _, rfl, Or.inl (by assumption), ?_⟩ | refine ⟨rfl, ?_⟩ | refine ⟨(by decide : (0 : Int) < _), ?_⟩ | refine ⟨⟨by decide, by decide⟩, ?_⟩ | refine ⟨_, _, _, rfl, (by assumption), (by first | decide | omega), ?_⟩))
def dueT : Nat → Str
  | 0 => Str.ofString ""
  | 1 => Str.ofString "place"
  | 2 => Str.ofString "price"
  | 3 => Str.ofString "twice"
  | _ => Str.ofString "many"
structure RawRow (r : Row) : Prop where
  n1 : r.1 ≠ empS
  n2 : r.2.1 ≠ empS
  o1 : okS 1000 r.1
  o2 : okS 1000 r.2.1
  c : 0 ≤ r.2.2
theorem take_first' {rs : List Row} {g : V × V × V} {gs : List (V × V × V)} (h : putDue rs g.1 g.2.1 g.2.2 = 0) : takeRows rs (g :: gs) = takeRows (rs ++ [mkRow g.1 g.2.1 g.2.2]) gs := by
  obtain ⟨x, y, z⟩ := g
  show (if putDue rs x y z = 0 then _ else _) = _
  rw [if_pos h]
theorem take_stop {rs : List Row} {g : V × V × V} {gs : List (V × V × V)} {n : Nat} (h : putDue rs g.1 g.2.1 g.2.2 = n) (n0 : n ≠ 0) : (takeRows rs (g :: gs)).1 = n := by
  obtain ⟨x, y, z⟩ := g
  show (if putDue rs x y z = 0 then _ else _ : Nat × List Row).1 = _
  rw [if_neg (by rw [h]; exact n0)]
  exact h
def spDue12 (K : PySem.W.Frag) : Sp := fun vs H Q _ => ∃ (r : Addr) (ts : List Addr) (rs : List Row), vs = [.ref r] ∧ SqL K H r (ts.map V.ref) ∧ Paired (IsRow H) ts rs ∧ (∀ q ∈ rs, RawRow q) ∧ rs.length ≤ 200 ∧ ∀ H', Same H H' → Q (.str (dueT (takeRows [] (rs.map givenOf)).1)) H'
theorem drop_cons {rs : List Row} {k : Nat} {r : Row} (h : rs[k]? = some r) : (rs.drop k).map givenOf = givenOf r :: (rs.drop (k + 1)).map givenOf := by
  have hl := (List.getElem?_eq_some_iff.mp h).1
  rw [List.drop_eq_getElem_cons hl, List.map_cons]
  have e : rs[k] = r := by
    have := (List.getElem?_eq_some_iff.mp h).2
    exact this
  rw [e]
abbrev s__law_due : Stmt := topS 28
abbrev N__law_due : List Str := ["_law_rows_here", "_law_told", "_law_k", "_law_name", "_law_sign"]
theorem sc__law_due : FnScope N__law_due ["_law_rows_here"] (defScope s__law_due) := ⟨rfl, rfl, rfl, by decide +kernel, rfl, by decide +kernel, by decide +kernel⟩
section
variable {Pg : Program} {w : World} {K : PySem.W.Frag} {mg : Str → Option Value} {base : Heap} {a : Ads}
theorem ok_due12 {f : Addr} {fd : FuncData} (F : Fun K "_law_due" "_law_due" s__law_due f fd) (T : Txt K mg a) : FnOk Pg w K mg base (L2N.CX Pg w) 1 f fd ["_law_rows_here"] (spDue12 K) := by
  refine F.okN sc__law_due (fun vs H Q E h => ?_) (fun cdv A outer s H vs Q E hr h => ?_)
  · obtain ⟨_, _, _, rfl, _⟩ := h
    rfl
  · obtain ⟨r, ts, rs, rfl, hq, hpr, raw, hlen, q⟩ := h
    have hu := hu_of hr
    have lts := Paired.length hpr
    have PO : PassesOwn (model Pg w) (A.deeper (envOfC "_law_due" (defScope s__law_due) s.heap.objs.size f cdv)) (envOfC "_law_due" (defScope s__law_due) s.heap.objs.size f cdv) (cxOf (L2N.CX Pg w) Pg w K mg base N__law_due "_law_due" (defScope s__law_due) f cdv A outer s H E).xe := passes_of rfl
    refine ⟨_, (pss_cons (ps_set (i := 1) sc__law_due.nd rfl (by first | exact Or.inl rfl | exact Or.inr rfl) pe_dnewTN)
      (pss_cons (ps_for PO rfl (pi_range1 (by rfl) T.n_range (pa_cons (pe_callB call_len_seq (by rfl) T.n_len (by decide +kernel) (pa_cons (pv 0) pa_nil)) pa_nil)) (pg_name (i := 2) sc__law_due.nd rfl (by first | exact Or.inl rfl | exact Or.inr rfl))
        (pss_cons (ps_for PO rfl (pi_tup (pe_tupN (pa_cons (pe_ix ix_tup (pe_ix ix_list (pv 0) (pv 2) (fun _ _ => rfl)) pe_int (fun _ _ => rfl)) (pa_cons (pe_ix ix_tup (pe_ix ix_list (pv 0) (pv 2) (fun _ _ => rfl)) pe_int (fun _ _ => rfl)) pa_nil)))) (pg_name (i := 3) sc__law_due.nd rfl (by first | exact Or.inl rfl | exact Or.inr rfl))
            (pss_one (ps_if (PW.pt (pw_or (pt_cmpR op_gt (pe_callB call_len_str (by rfl) T.n_len (by decide +kernel) (pa_cons (pv 3) pa_nil)) pe_int (nomark _)) (pw_or1 (pt_cmpR (op_neD hr.units) (pe_lc (own := [("_law_sign", 4)]) (g := (gName 4)) (tt := _) rfl sc__law_due.nd (pi_str (pv 3)) (blkOk_by (own := [("_law_sign", 4)]) (N := N__law_due) (sc := (defScope s__law_due)) (by decide +kernel)) (fun _ _ _ _ _ => (pg_name (i := 4) sc__law_due.nd rfl (by first | exact Or.inl rfl | exact Or.inr rfl))) (fun _ _ _ _ _ => pts_one (pt_cmpR op_notIn_sign (pv 4) pe_str rfl)) (fun _ _ _ _ _ => (pv 4))) (pe_lstN pa_nil) (nomark _))))) (pss_one (ps_ret pe_str)) pss_nil)))
          (pss_cons (ps_if (pt_cmpR op_eq (pe_ix ix_tup (pe_ix ix_list (pv 0) (pv 2) (fun _ _ => rfl)) pe_int (fun _ _ => rfl)) (pe_ix ix_tup (pe_ix ix_list (pv 0) (pv 2) (fun _ _ => rfl)) pe_int (fun _ _ => rfl)) (nomark _)) (pss_one (ps_ret pe_str)) pss_nil)
          (pss_cons (ps_if (pt_cmpR op_gt (pe_ix ix_tup (pe_ix ix_list (pv 0) (pv 2) (fun _ _ => rfl)) pe_int (fun _ _ => rfl)) pe_int (nomark _)) (pss_one (ps_ret pe_str)) pss_nil)
          (pss_cons (ps_if (pt_cmp (pc_din hu (pe_tupN (pa_cons (pe_ix ix_tup (pe_ix ix_list (pv 0) (pv 2) (fun _ _ => rfl)) pe_int (fun _ _ => rfl)) (pa_cons (pe_ix ix_tup (pe_ix ix_list (pv 0) (pv 2) (fun _ _ => rfl)) pe_int (fun _ _ => rfl)) pa_nil))) (pv 1))) (pss_one (ps_ret pe_str)) pss_nil)
          (pss_cons (ps_if (pt_cmpR op_ge (pv 2) pe_int (nomark _)) (pss_one (ps_ret pe_str)) pss_nil)
          (pss_one (ps_dput hu (pv 1) (pe_tupN (pa_cons (pe_ix ix_tup (pe_ix ix_list (pv 0) (pv 2) (fun _ _ => rfl)) pe_int (fun _ _ => rfl)) (pa_cons (pe_ix ix_tup (pe_ix ix_list (pv 0) (pv 2) (fun _ _ => rfl)) pe_int (fun _ _ => rfl)) pa_nil))) pe_bl rfl))))))))
      (pss_one (ps_ret pe_str)))), ?_⟩
    walk_at "s"
    intro td H1 ntd s1 ht1
    have hq1 := s1.seq hq
    walk_at "s"
    rw [List.length_map]
    refine ⟨by omega, by omega, ?_⟩
    refine for_range (fun k σ H' => ∃ (v2 v3 v4 : Option V), σ = [some (.ref r), some (.ref td), v2, v3, v4] ∧ Same H H' ∧ H' td = some (.dT (toldK (rs.take k))) ∧ takeRows [] (rs.map givenOf) = takeRows (rs.take k) ((rs.drop k).map givenOf)) ⟨none, none, none, rfl, s1, ht1, rfl⟩ ?_ ?_
    · rintro k σ H2 hk ⟨v2, v3, v4, rfl, s2, ht2, htk⟩
      obtain ⟨t, htt⟩ : ∃ t, ts[k]? = some t := ⟨_, List.getElem?_eq_getElem (by omega)⟩
      obtain ⟨rr, hr1, hrow⟩ := paired_at hpr htt
      have rw1 := raw rr (List.mem_of_getElem? hr1)
      have hq2 := s2.seq hq
      have hrow2 : IsRow H2 t rr := s2 _ _ hrow
      have at1 : atI (ts.map V.ref) (0 + (k : Int)) = some (.ref t) := atI_of (by omega) (by rw [show (0 + (k : Int)).toNat = k by omega, List.getElem?_map, htt]; rfl)
      have lk : (rs.take k).length = k := by rw [List.length_take]; have := (List.getElem?_eq_some_iff.mp hr1).1; omega
      have stop : ∀ n, n ≠ 0 → putDue (rs.take k) (.str rr.1) (.str rr.2.1) (.int rr.2.2) = n → ∀ H', Same H H' → Q (.str (dueT n)) H' := fun n n0 e H' s' => by
        have e2 : (takeRows [] (rs.map givenOf)).1 = n := by
          rw [htk, drop_cons hr1]
          exact take_stop (g := givenOf rr) e n0
        have := q H' s'
        rw [e2] at this
        exact this
      walk_at "s"
      refine ⟨_, _, _, _, rfl, rfl, hq2, at1, ?_⟩
      walk_at "s"
      refine ⟨_, _, _, _, rfl, rfl, SqT.of hrow2, rfl, ?_⟩
      walk_at "s"
      refine ⟨_, _, _, _, rfl, rfl, hq2, at1, ?_⟩
      walk_at "s"
      refine ⟨_, _, _, _, rfl, rfl, SqT.of hrow2, rfl, ?_⟩
      walk_at "s"
      refine ⟨(by simp), fun b H3 nb s3 h3 => ?_⟩
      walk_at "s"
      refine ⟨⟨_, SqT.of h3⟩, ?_⟩
      have s23 := Same.trans s2 s3
      refine for_tup (K := K) (a := b) (xs := [V.str rr.1, V.str rr.2.1]) (fun j σ H' => ∃ (v3 v4 : Option V), σ = [some (.ref r), some (.ref td), some (.int (0 + (k : Int))), v3, v4] ∧ Same H3 H' ∧ (1 ≤ j → isP (.str rr.1) = true) ∧ (2 ≤ j → isP (.str rr.2.1) = true)) ⟨v3, v4, rfl, Same.refl _, fun h => by omega, fun h => by omega⟩ (fun j σ H' _ ⟨_, _, _, s6, _⟩ => same_t s6 (SqT.of h3)) ?_ ?_
      · rintro j v σ H4 hj ⟨v3', v4', rfl, s4, p1, p2⟩
        have s04 := Same.trans s23 s4
        obtain ⟨z, rfl, oz, nz, hz⟩ : ∃ z, v = .str z ∧ okS 1000 z ∧ z ≠ empS ∧ ((j = 0 ∧ z = rr.1) ∨ (j = 1 ∧ z = rr.2.1)) := by
          have jl := (List.getElem?_eq_some_iff.mp hj).1
          have jl2 : j < 2 := jl
          have : j = 0 ∨ j = 1 := by omega
          rcases this with rfl | rfl
          · cases hj; exact ⟨rr.1, rfl, rw1.o1, rw1.n1, .inl ⟨rfl, rfl⟩⟩
          · cases hj; exact ⟨rr.2.1, rfl, rw1.o2, rw1.n2, .inr ⟨rfl, rfl⟩⟩
        have bad : isP (.str z) = false → ∀ H', Same H H' → Q (.str (dueT 1)) H' := fun e => stop 1 (by decide) (by
          unfold putDue
          rcases hz with ⟨rfl, rfl⟩ | ⟨rfl, rfl⟩
          · rw [if_neg (by rw [e]; decide)]
          · rw [if_pos (p1 (by decide)), if_neg (by rw [e]; decide)])
        have ozl := oz.1
        walk_at "s"
        refine ⟨szl (by omega), ?_⟩
        walk_at "s"
        refine ifD (fun c1 => ?_) (fun c1 => ?_)
        · walk_at "s"
          refine bad ?_ _ s04
          show (decide (1 ≤ z.length) && decide (z.length ≤ 12) && z.cps.toList.all letter) = false
          rw [decide_eq_false (show ¬ z.length ≤ 12 by omega)]; simp
        walk_at "s"
        intro D hD
        refine lc_signs (fun c => !letter c) hD (show z.length ≤ 90000 by omega) (fun v => rfl) (fun c H5 s5 Q5 q5 => ?_) (fun c H5 s5 Q5 q5 => ⟨_, rfl, q5⟩) (fun H5 s5 hDl => ?_)
        · rw [← notin_letter] at q5
          exact ⟨_, rfl, _, _, rfl, rfl, _, rfl, q5⟩
        walk_at "s"
        refine ⟨(by simp), fun D2 H6 nD2 s6 h6 => ?_⟩
        have hf := flat_signs (l := z.cps.toList.filter fun c => !letter c) fun c hc => oz.2 c (List.mem_filter.mp hc).1
        refine ⟨_, .list [], .lst (SqL.of (s6 _ _ hDl)) (dpAll_flat hf), .lst (SqL.of h6) .nil, shaped_list hf, shaped_list (xs := []) (fun v hv => by cases hv), ?_⟩
        rw [eqv_nil, isEmpty_all]
        have s06 := Same.trans s04 (Same.trans s5 s6)
        have z1 : 1 ≤ z.length := by
          rw [len_tl]
          exact List.length_pos_iff.mpr fun e => nz (empS_iff.mpr e)
        cases hall : z.cps.toList.all letter with
        | false =>
          walk_at "s"
          refine ifT1 ?_
          walk_at "s"
          refine bad ?_ _ s06
          show (decide (1 ≤ z.length) && decide (z.length ≤ 12) && z.cps.toList.all letter) = false
          rw [hall]; simp
        | true =>
          have pz : isP (.str z) = true := by
            show (decide (1 ≤ z.length) && decide (z.length ≤ 12) && z.cps.toList.all letter) = true
            rw [hall, decide_eq_true z1, decide_eq_true (show z.length ≤ 12 by omega)]; rfl
          walk_at "s"
          refine ⟨_, _, rfl, Same.trans s4 (Same.trans s5 s6), fun h => ?_, fun h => ?_⟩
          · rcases hz with ⟨rfl, rfl⟩ | ⟨rfl, rfl⟩
            · exact pz
            · exact p1 (by decide)
          · rcases hz with ⟨rfl, rfl⟩ | ⟨rfl, rfl⟩
            · omega
            · exact pz
      · rintro σ H4 ⟨v3', v4', rfl, s4, p1, p2⟩
        have p1 := p1 (by show 1 ≤ 2; decide)
        have p2 := p2 (by show 2 ≤ 2; decide)
        have s24 := Same.trans s23 s4
        have hq4 := s24.seq hq
        have hrow4 : IsRow H4 t rr := s24 _ _ hrow
        have ht4 := (Same.trans s3 s4) _ _ ht2
        walk_at "s"
        refine ⟨_, _, _, _, rfl, rfl, hq4, at1, ?_⟩
        walk_at "s"
        refine ⟨_, _, _, _, rfl, rfl, SqT.of hrow4, rfl, ?_⟩
        walk_at "s"
        refine ⟨_, _, _, _, rfl, rfl, hq4, at1, ?_⟩
        walk_at "s"
        refine ⟨_, _, _, _, rfl, rfl, SqT.of hrow4, rfl, ?_⟩
        walk_at "s"
        refine ifD (fun c1 => ?_) (fun c1 => ?_)
        · walk_at "s"
          refine stop 1 (by decide) ?_ _ s24
          unfold putDue
          rw [if_pos p1, if_pos p2, if_pos c1]
        walk_at "s"
        refine ⟨_, _, _, _, rfl, rfl, hq4, at1, ?_⟩
        walk_at "s"
        refine ⟨_, _, _, _, rfl, rfl, SqT.of hrow4, rfl, ?_⟩
        walk_at "s"
        refine ifD (fun c2 => ?_) (fun c2 => ?_)
        · walk_at "s"
          refine stop 2 (by decide) ?_ _ s24
          unfold putDue
          rw [if_pos p1, if_pos p2, if_neg c1, if_neg]
          intro z
          have z' : (decide (0 ≤ rr.2.2) && decide (rr.2.2 ≤ 1000000000000)) = true := z
          simp only [Bool.and_eq_true, decide_eq_true_eq] at z'
          omega
        have pc : isC (.int rr.2.2) = true := isC_of rw1.c (by omega)
        walk_at "s"
        refine ⟨_, _, _, _, rfl, rfl, hq4, at1, ?_⟩
        walk_at "s"
        refine ⟨_, _, _, _, rfl, rfl, SqT.of hrow4, rfl, ?_⟩
        walk_at "s"
        refine ⟨_, _, _, _, rfl, rfl, hq4, at1, ?_⟩
        walk_at "s"
        refine ⟨_, _, _, _, rfl, rfl, SqT.of hrow4, rfl, ?_⟩
        refine ⟨(by simp), fun u1 H5 nu1 s5 h5 => ?_⟩
        have ht5 := s5 _ _ ht4
        have s25 := Same.trans s24 s5
        walk_at "s"
        refine ⟨td, _, rfl, DGet.t (k := wayK rr.1 rr.2.1) ht5 h5, ?_⟩
        walk_at "s"
        rw [told_has]
        refine ifD (fun c3 => ?_) (fun c3 => ?_)
        · walk_at "s"
          refine stop 3 (by decide) ?_ _ s25
          unfold putDue
          rw [if_pos p1, if_pos p2, if_neg c1, if_pos pc, if_pos (told_iff.mpr c3)]
        have nt : ¬ isTold (rs.take k) (.str rr.1) (.str rr.2.1) = true := fun z => c3 (told_iff.mp z)
        walk_at "s"
        refine ifD (fun c4 => ?_) (fun c4 => ?_)
        · walk_at "s"
          refine stop 4 (by decide) ?_ _ s25
          unfold putDue
          rw [if_pos p1, if_pos p2, if_neg c1, if_pos pc, if_neg nt, if_pos (by omega)]
        have hq5 := s5.seq hq4
        have hrow5 : IsRow H5 t rr := s5 _ _ hrow4
        walk_at "s"
        refine ⟨_, _, _, _, rfl, rfl, hq5, at1, ?_⟩
        walk_at "s"
        refine ⟨_, _, _, _, rfl, rfl, SqT.of hrow5, rfl, ?_⟩
        walk_at "s"
        refine ⟨_, _, _, _, rfl, rfl, hq5, at1, ?_⟩
        walk_at "s"
        refine ⟨_, _, _, _, rfl, rfl, SqT.of hrow5, rfl, ?_⟩
        refine ⟨(by simp), fun u2 H6 nu2 s6 h6 => ?_⟩
        have ht6 := s6 _ _ ht5
        refine dput_go (k := wayK rr.1 rr.2.1) ht6 h6 (by unfold toldK; rw [List.length_map, lk]; omega) fun H7 s7 h7 => ?_
        rw [told_new (n := rr.2.2) c3] at h7
        refine ⟨_, _, _, rfl, same_mutB (Same.trans s25 s6) ntd s7, by rw [h7, ← take_snoc hr1], ?_⟩
        rw [htk, drop_cons hr1, take_first' (g := givenOf rr) (by
          show putDue (rs.take k) (.str rr.1) (.str rr.2.1) (.int rr.2.2) = 0
          unfold putDue
          rw [if_pos p1, if_pos p2, if_neg c1, if_pos pc, if_neg nt, if_neg (by omega)]), ← take_snoc hr1]
        rfl
    · rintro σ H2 ⟨v2, v3, v4, rfl, s2, ht2, htk⟩
      have e : (takeRows [] (rs.map givenOf)).1 = 0 := by
        rw [htk, List.drop_eq_nil_of_le (by omega)]; rfl
      walk_at "s"
      have := q H2 s2
      rw [e] at this
      exact this
end
end Fb

namespace Fb
open PySem PySem.Spec PyProof.Rows L2 HotX
/-! ### a walk over a tuple while an error is handled -/
theorem turn_tupH {Pg : Program} {w : World} {K : PySem.W.Frag} {tg : Expr} (l it : Addr) : L2H.TurnH Pg w K tg (Itt K l) [it] it (fun n h => h.IsTupleIter it l n) where
  mem := List.mem_singleton.mpr rfl
  obj := fun n h t c hc => by
    rw [List.mem_singleton.mp hc]
    obtain ⟨ob, g, _, d⟩ := t
    exact ⟨ob, g, fun v z => by rw [d] at z; cases z⟩
  keep := fun n h h' t k => by
    obtain ⟨ob, g, c, d⟩ := t
    exact ⟨ob, k it (List.mem_singleton.mpr rfl) ob g, c, d⟩
  item := fun X e1 e2 e3 hc n pins z σ H E I free t go => by
    subst e1 e2 e3
    obtain ⟨xs, x, sq, at_⟩ := go
    obtain ⟨us, rel, pl, _⟩ := I.tuple sq
    obtain ⟨u, hu, ru⟩ := rel.get at_
    have F := free it (List.mem_singleton.mpr rfl)
    refine wpAny_pyNext_tuple_item t pl (x := u) (by simpa using hu) fun h' t' but => ?_
    have I' : Inv X pins σ H { z with heap := h' } := I.turned (t' := z.toks) (fun c ob nc g => (but.2 c nc).trans g) F.1 F.2.1 F.2.2.2.1 F.2.2.2.2.1 F.2.2.2.2.2
    obtain ⟨ob, g, c, d⟩ := id t'
    exact ⟨u, rfl, go_of (s := { z with heap := h' }) g c d (by decide) ⟨x, H, I', ru, ⟨rfl, fun ys hy => by rw [I.tuple_inj hy sq]; exact at_⟩, t', fun c hc => (free c hc).1⟩⟩
  done := fun X e1 e2 e3 hc n pins z σ H E I free t stop => by
    subst e1 e2 e3
    obtain ⟨xs, sq, le⟩ := stop
    obtain ⟨us, rel, pl, _⟩ := I.tuple sq
    have F := free it (List.mem_singleton.mpr rfl)
    have len := rel.length
    obtain ⟨x1, hot⟩ := hc.at I
    exact hot_tuple_end hot t pl (by simp; omega) fun h' but => ⟨rfl, I.turned (t' := z.toks) (fun c ob nc g => but c ob nc g) F.1 F.2.1 F.2.2.2.1 F.2.2.2.2.1 F.2.2.2.2.2⟩
  self := fun _ _ _ _ _ t q => wpAny_pyIter_tupleiter t q
section
variable {X : Cx} {tg : Expr}
theorem pi_tupH {l : Expr} {tl : TE} (hl : PE X l tl) : L2H.PIH X tg l (iTup X.K tl) := ⟨fun pins z σ H R I wish => by
  refine thn (hl.run pins z σ H _ I wish) fun v z1 got => ?_
  obtain ⟨x, H1, I1, r1, a, rfl, ⟨xs, sq⟩, q⟩ := got
  cases r1
  obtain ⟨us, rel, pl, _⟩ := I1.tuple sq
  refine wpAny_pyIter_tuple pl ⟨z1.heap.objs.size, [z1.heap.objs.size], _, _, H1, rfl, I1.kept (t' := z1.toks) fun b o e => Heap.get?_push_of_some _ e, turn_tupH a _, ⟨_, Heap.get?_push_size _ rfl, rfl, rfl⟩, fun c hc => ?_, q⟩
  rw [List.mem_singleton.mp hc]
  exact I1.fpOk (Nat.le_refl _) (I1.hok.fresh (Nat.le_refl _))⟩
end
end Fb

namespace Fb
open PySem PySem.Spec PyProof.Rows L2
local macro_rules | `(tactic| walk_at "s") => `(tactic| repeat (first | refine ⟨_, rfl, ?_⟩ | refine ⟨_, _, rfl, rfl, ?_⟩ | refine ⟨_, _, rfl, Or.inl (by assumption), ?_⟩ | refine ⟨rfl, ?_⟩ | refine ⟨(by decide : (0 : Int) < _), ?_⟩ | refine ⟨⟨by decide, by decide⟩, ?_⟩ | refine ⟨_, _, _, rfl, (by assumption), (by first | decide | omega), ?_⟩))
def kind5 (a : Ads) : Nat → Addr
  | 0 => a.BadLine
  | 1 => a.BadPlace
  | 2 => a.BadPrice
  | 3 => a.TwiceTold
  | _ => a.TooMany
def saidT : Nat → Str
  | 0 => Str.ofString "line"
  | 1 => Str.ofString "place"
  | 2 => Str.ofString "price"
  | 3 => Str.ofString "twice"
  | _ => Str.ofString "many"
def spSaid12 (a : Ads) : SpE := fun e C vs H Q _ => ∃ n : Nat, vs = [.ref e] ∧ C = kind5 a n ∧ n ≤ 4 ∧ ∀ H', Same H H' → Q (.str (saidT n)) H'
section
variable {Pg : Program} {w : World} {K : PySem.W.Frag} {mg : Str → Option Value} {base : Heap} {a : Ads}
theorem kk5 (T : Txt K mg a) : ∀ (n k : Nat), n ≤ 4 → k ≤ 4 → PySem.W.kitOne K (.ref (kind5 a n)) (.ref (kind5 a k)) = some (decide (k = n)) := by
  intro n k hn hk
  have h : n = 0 ∨ n = 1 ∨ n = 2 ∨ n = 3 ∨ n = 4 := by omega
  have g : k = 0 ∨ k = 1 ∨ k = 2 ∨ k = 3 ∨ k = 4 := by omega
  rcases h with rfl | rfl | rfl | rfl | rfl
  · rcases g with rfl | rfl | rfl | rfl | rfl
    · exact T.k_BadLine_BadLine
    · exact T.k_BadLine_BadPlace
    · exact T.k_BadLine_BadPrice
    · exact T.k_BadLine_TwiceTold
    · exact T.k_BadLine_TooMany
  · rcases g with rfl | rfl | rfl | rfl | rfl
    · exact T.k_BadPlace_BadLine
    · exact T.k_BadPlace_BadPlace
    · exact T.k_BadPlace_BadPrice
    · exact T.k_BadPlace_TwiceTold
    · exact T.k_BadPlace_TooMany
  · rcases g with rfl | rfl | rfl | rfl | rfl
    · exact T.k_BadPrice_BadLine
    · exact T.k_BadPrice_BadPlace
    · exact T.k_BadPrice_BadPrice
    · exact T.k_BadPrice_TwiceTold
    · exact T.k_BadPrice_TooMany
  · rcases g with rfl | rfl | rfl | rfl | rfl
    · exact T.k_TwiceTold_BadLine
    · exact T.k_TwiceTold_BadPlace
    · exact T.k_TwiceTold_BadPrice
    · exact T.k_TwiceTold_TwiceTold
    · exact T.k_TwiceTold_TooMany
  · rcases g with rfl | rfl | rfl | rfl | rfl
    · exact T.k_TooMany_BadLine
    · exact T.k_TooMany_BadPlace
    · exact T.k_TooMany_BadPrice
    · exact T.k_TooMany_TwiceTold
    · exact T.k_TooMany_TooMany
theorem ki5 (T : Txt K mg a) : ∀ (n : Nat), n ≤ 4 → ExcC K (kind5 a n) := by
  intro n hn
  have h : n = 0 ∨ n = 1 ∨ n = 2 ∨ n = 3 ∨ n = 4 := by omega
  rcases h with rfl | rfl | rfl | rfl | rfl
  · exact T.i_BadLine
  · exact T.i_BadPlace
  · exact T.i_BadPrice
  · exact T.i_TwiceTold
  · exact T.i_TooMany
theorem ke5 (T : Txt K mg a) : ∀ (n : Nat), n ≤ 4 → PySem.W.exmOne K (.ref (kind5 a n)) (.ref a.FareError) = some true := by
  intro n hn
  have h : n = 0 ∨ n = 1 ∨ n = 2 ∨ n = 3 ∨ n = 4 := by omega
  rcases h with rfl | rfl | rfl | rfl | rfl
  · exact T.e_BadLine
  · exact T.e_BadPlace
  · exact T.e_BadPrice
  · exact T.e_TwiceTold
  · exact T.e_TooMany
theorem kv5 (T : Txt K mg a) : ∀ (n : Nat), n ≤ 4 → PySem.W.kitOne K (.ref (kind5 a n)) (.type "ValueError") = some true := by
  intro n hn
  have h : n = 0 ∨ n = 1 ∨ n = 2 ∨ n = 3 ∨ n = 4 := by omega
  rcases h with rfl | rfl | rfl | rfl | rfl
  · exact T.v_BadLine
  · exact T.v_BadPlace
  · exact T.v_BadPrice
  · exact T.v_TwiceTold
  · exact T.v_TooMany
end
abbrev s__law_said : Stmt := topS 29
abbrev N__law_said : List Str := ["_law_error", "_law_fits", "_law_word"]
theorem sc__law_said : FnScope N__law_said ["_law_error"] (defScope s__law_said) := ⟨rfl, rfl, rfl, by decide +kernel, rfl, by decide +kernel, by decide +kernel⟩
section
variable {Pg : Program} {w : World} {K : PySem.W.Frag} {mg : Str → Option Value} {base : Heap} {a : Ads}
theorem ok_said12 {f : Addr} {fd : FuncData} (F : Fun K "_law_said" "_law_said" s__law_said f fd) (T : Txt K mg a) : FnE Pg w K mg base 1 f fd ["_law_error"] (spSaid12 a) := by
  refine okE F sc__law_said (fun e C vs H Q E h => ?_) (fun cdv A outer s H vs Q E p C hh er hr h => ?_)
  · obtain ⟨_, rfl, _⟩ := h
    rfl
  · obtain ⟨n, rfl, rfl, hn, q⟩ := h
    have PO : PassesOwn (model Pg w) (A.deeper (envOfC "_law_said" (defScope s__law_said) s.heap.objs.size f cdv)) (envOfC "_law_said" (defScope s__law_said) s.heap.objs.size f cdv) (L2H.cxH (L2N.CX Pg w) Pg w K mg base N__law_said "_law_said" (defScope s__law_said) f cdv A outer s H E p).xe := passes_of rfl
    refine ⟨_, (pss_cons (ps_if (pt_not (pt_val (pe_callB (call_isP List.mem_cons_self er.zc er.fields) (by rfl) T.n_isinstance (by decide +kernel) (pa_cons (pv 0) (pa_cons (pe_bty (n := "ValueError") T.n_ValueError (by decide +kernel)) pa_nil))))) (pss_one (ps_ret pe_str)) pss_nil)
      (pss_cons (L2H.ps_forH PO ⟨p, ⟨hh, er.ctx⟩, List.mem_cons_self⟩ (pi_tupH (pe_tupN (pa_cons (pe_tupN (pa_cons (pe_callB (call_isP List.mem_cons_self er.zc er.fields) (by rfl) T.n_isinstance (by decide +kernel) (pa_cons (pv 0) (pa_cons (pe_cls T.x_BadLine.g) pa_nil))) (pa_cons pe_str pa_nil))) (pa_cons (pe_tupN (pa_cons (pe_callB (call_isP List.mem_cons_self er.zc er.fields) (by rfl) T.n_isinstance (by decide +kernel) (pa_cons (pv 0) (pa_cons (pe_cls T.x_BadPlace.g) pa_nil))) (pa_cons pe_str pa_nil))) pa_nil)))) (pg_tupA (hotIn_of ⟨p, ⟨hh, er.ctx⟩, List.mem_cons_self⟩) (pgs_cons (pg_name (i := 1) sc__law_said.nd rfl (by first | exact Or.inl rfl | exact Or.inr rfl)) (pgs_cons (pg_name (i := 2) sc__law_said.nd rfl (by first | exact Or.inl rfl | exact Or.inr rfl)) pgs_nil)))
        (pss_one (ps_if (pt_val (pv 1)) (pss_one (ps_ret (pv 2))) pss_nil)))
      (pss_cons (ps_if (pt_val (pe_callB (call_isP List.mem_cons_self er.zc er.fields) (by rfl) T.n_isinstance (by decide +kernel) (pa_cons (pv 0) (pa_cons (pe_cls T.x_BadPrice.g) pa_nil)))) (pss_one (ps_ret pe_str)) pss_nil)
      (pss_cons (ps_if (pt_val (pe_callB (call_isP List.mem_cons_self er.zc er.fields) (by rfl) T.n_isinstance (by decide +kernel) (pa_cons (pv 0) (pa_cons (pe_cls T.x_TooMany.g) pa_nil)))) (pss_one (ps_ret pe_str)) pss_nil)
      (pss_one (ps_ret (pe_ix ix_list (pe_lstN (pa_cons pe_str (pa_cons pe_str pa_nil))) (pe_callTy call_int1 (by rfl) T.n_int (by decide +kernel) (pa_cons (pe_callB (call_isP List.mem_cons_self er.zc er.fields) (by rfl) T.n_isinstance (by decide +kernel) (pa_cons (pv 0) (pa_cons (pe_cls T.x_TwiceTold.g) pa_nil))) pa_nil)) (fun _ _ => rfl)))))))), ?_⟩
    walk_at "s"
    refine ⟨_, _, _, _, rfl, rfl, rfl, ki5 T n hn, rel_ty, kv5 T n hn, ?_⟩
    walk_at "s"
    refine ⟨_, _, _, _, rfl, rfl, rfl, ki5 T n hn, rel_cls, kk5 T n 0 hn (by decide), ?_⟩
    walk_at "s"
    refine ⟨(by simp), fun u1 H1 nu1 s1 h1 => ?_⟩
    walk_at "s"
    refine ⟨_, _, _, _, rfl, rfl, rfl, ki5 T n hn, rel_cls, kk5 T n 1 hn (by decide), ?_⟩
    walk_at "s"
    refine ⟨(by simp), fun u2 H2 nu2 s2 h2 => ?_⟩
    refine ⟨(by simp), fun b H3 nb s3 h3 => ?_⟩
    have s03 := Same.trans s1 (Same.trans s2 s3)
    have h1' := s3 _ _ (s2 _ _ h1)
    have h2' := s3 _ _ h2
    walk_at "s"
    refine ⟨⟨_, SqT.of h3⟩, ?_⟩
    refine for_tup (K := K) (a := b) (xs := [V.ref u1, V.ref u2]) (fun j σ H' => ∃ (v1 v2 : Option V), σ = [some (.ref p.1), v1, v2] ∧ Same H3 H' ∧ (1 ≤ j → n ≠ 0) ∧ (2 ≤ j → n ≠ 1)) ⟨none, none, rfl, Same.refl _, fun h => by omega, fun h => by omega⟩ (fun j σ H' _ ⟨_, _, _, s6, _⟩ => same_t s6 (SqT.of h3)) ?_ ?_
    · rintro j v σ H4 hj ⟨v1, v2, rfl, s4, p1, p2⟩
      have s04 := Same.trans s03 s4
      have jl := (List.getElem?_eq_some_iff.mp hj).1
      have jl2 : j < 2 := jl
      have : j = 0 ∨ j = 1 := by omega
      rcases this with rfl | rfl
      · cases hj
        refine ⟨_, _, rfl, SqT.of (s4 _ _ h1'), rfl, _, _, rfl, _, _, rfl, rfl, ?_⟩
        walk_at "s"
        refine ifD (fun c1 => ?_) (fun c1 => ?_)
        · subst c1
          walk_at "s"
          exact q _ s04
        · exact ⟨_, _, rfl, s4, fun _ => fun z => c1 z.symm, fun h => by omega⟩
      · cases hj
        refine ⟨_, _, rfl, SqT.of (s4 _ _ h2'), rfl, _, _, rfl, _, _, rfl, rfl, ?_⟩
        walk_at "s"
        refine ifD (fun c1 => ?_) (fun c1 => ?_)
        · subst c1
          walk_at "s"
          exact q _ s04
        · exact ⟨_, _, rfl, s4, fun _ => p1 (by decide), fun _ => fun z => c1 z.symm⟩
    · rintro σ H4 ⟨v1, v2, rfl, s4, p1, p2⟩
      have p1 := p1 (by show 1 ≤ 2; decide)
      have p2 := p2 (by show 2 ≤ 2; decide)
      have s04 := Same.trans s03 s4
      walk_at "s"
      refine ⟨_, _, _, _, rfl, rfl, rfl, ki5 T n hn, rel_cls, kk5 T n 2 hn (by decide), ?_⟩
      walk_at "s"
      refine ifD (fun c1 => ?_) (fun c1 => ?_)
      · subst c1
        walk_at "s"
        exact q _ s04
      walk_at "s"
      refine ⟨_, _, _, _, rfl, rfl, rfl, ki5 T n hn, rel_cls, kk5 T n 4 hn (by decide), ?_⟩
      walk_at "s"
      refine ifD (fun c2 => ?_) (fun c2 => ?_)
      · subst c2
        walk_at "s"
        exact q _ s04
      obtain rfl : n = 3 := by omega
      walk_at "s"
      refine ⟨(by simp), fun b2 H5 nb2 s5 h5 => ?_⟩
      walk_at "s"
      refine ⟨_, _, _, _, rfl, rfl, rfl, ki5 T 3 hn, rel_cls, kk5 T 3 3 hn (by decide), ?_⟩
      walk_at "s"
      refine .inr ⟨_, rfl, ?_⟩
      refine ⟨_, _, _, _, rfl, rfl, SqL.of h5, rfl, ?_⟩
      exact q _ (Same.trans s04 s5)
end
end Fb

namespace Fb
open PySem PySem.Spec PyProof.Rows L2
local macro_rules | `(tactic| walk_at "s") => `(tactic| repeat (first | refine ⟨_, rfl, ?_⟩ | refine ⟨_, _, rfl, rfl, ?_⟩ | refine ⟨_, _, rfl, Or.inl (by assumption), ?_⟩ | refine ⟨rfl, ?_⟩ | refine ⟨(by decide : (0 : Int) < _), ?_⟩ | refine ⟨⟨by decide, by decide⟩, ?_⟩ | refine ⟨_, _, _, rfl, (by assumption), (by first | decide | omega), ?_⟩))
def spGrown (K : PySem.W.Frag) (a : Ads) (P : Addr) : Sp := fun vs H Q _ => ∃ (r : Addr) (ts : List Addr) (rs : List Row) (c : Nat) (c' : Int), vs = [.ref r, .int c'] ∧ c' = (c : Int) ∧ c ≤ rs.length ∧ SqL K H r (ts.map V.ref) ∧ Paired (IsRow H) ts rs ∧ GoodRows rs ∧ rs.length ≤ 160 ∧ H P = some (TabO P) ∧ ∀ H', Same H H' → Q (.bl true) H'
abbrev s__law_grown : Stmt := topS 31
abbrev N__law_grown : List Str := ["_law_rows_here", "_law_cut", "_law_due_here", "_law_row", "_law_tariff", "_law_told"]
theorem sc__law_grown : FnScope N__law_grown ["_law_rows_here", "_law_cut"] (defScope s__law_grown) := ⟨rfl, rfl, rfl, by decide +kernel, rfl, by decide +kernel, by decide +kernel⟩
section
variable {Pg : Program} {w : World} {K : PySem.W.Frag} {mg : Str → Option Value} {base : Heap} {a : Ads}
theorem ok_grown {f P : Addr} {fd : FuncData} (F : Fun K "_law_grown" "_law_grown" s__law_grown f fd) (T : Txt K mg a) (D_lines_of : Dn Pg w K mg base 2 "lines_of" ["tariff"] (spLinesOf K a)) (D_same : Dn Pg w K mg base 1 "_law_same" ["_law_found", "_law_due_here"] (spSame K))
    (D_put : Dm Pg w K mg base 3 a.Tariff "put" ["self", "here", "there", "price"] (spPut a P)) (D_Tariff : Dk Pg w K mg base 4 "Tariff" a.Tariff ["self", "rows"] (spInit K a P)) : FnOk Pg w K mg base (L2N.CX Pg w) 6 f fd ["_law_rows_here", "_law_cut"] (spGrown K a P) := by
  refine F.okN sc__law_grown (fun vs H Q E h => ?_) (fun cdv A outer s H vs Q E hr h => ?_)
  · obtain ⟨_, _, _, _, _, rfl, _⟩ := h
    rfl
  · obtain ⟨r, ts, rs, c, c', rfl, rfl, hc, hq, hpr, hg, hlen, hP, q⟩ := h
    have lts := Paired.length hpr
    have PO : PassesOwn (model Pg w) (A.deeper (envOfC "_law_grown" (defScope s__law_grown) s.heap.objs.size f cdv)) (envOfC "_law_grown" (defScope s__law_grown) s.heap.objs.size f cdv) (cxOf (L2N.CX Pg w) Pg w K mg base N__law_grown "_law_grown" (defScope s__law_grown) f cdv A outer s H E).xe := passes_of rfl
    refine ⟨_, (pss_cons (ps_setLc (i := 2) (own := [("_law_row", 3)]) (g := (gName 3)) (tt := tYes) rfl sc__law_grown.nd rfl rfl (sw_true rfl rfl rfl (by decide +kernel)) (pi_list (pv 0)) (blkOk_by (own := [("_law_row", 3)]) (N := N__law_grown) (sc := (defScope s__law_grown)) (by decide +kernel)) (fun _ _ _ _ _ => (pg_name (i := 3) sc__law_grown.nd rfl (by first | exact Or.inl rfl | exact Or.inr rfl))) (fun _ _ _ _ _ => pts_nil) (fun _ _ _ _ _ => (pe_op op_add_str (pe_op op_add_str (pe_op op_add_str (pe_op op_add_str (pe_ix (ix_tupS (K := K)) (pv 3) pe_int (fun _ _ => rfl)) pe_str) (pe_ix (ix_tupS (K := K)) (pv 3) pe_int (fun _ _ => rfl))) pe_str) (pe_callTy call_str_int (by rfl) T.n_str (by decide +kernel) (pa_cons (pe_ix (ix_tupS (K := K)) (pv 3) pe_int (fun _ _ => rfl)) pa_nil)))))
      (pss_cons (ps_set (i := 4) sc__law_grown.nd rfl (by first | exact Or.inl rfl | exact Or.inr rfl) (pe_mkS D_Tariff (hr.mono (by decide)) (fun σ => L2N.passAt (L2N.takes_of rfl rfl rfl rfl) σ) (pa_cons (pe_slice sl_listN (pv 0) po_none (po_some (pv 1))) pa_nil)))
      (pss_cons (ps_set (i := 5) sc__law_grown.nd rfl (by first | exact Or.inl rfl | exact Or.inr rfl) (pe_fnS D_lines_of (hr.mono (by decide)) passC (pa_cons (pv 4) pa_nil)))
      (pss_cons (ps_if (pt_not (pt_val (pe_fnS D_same (hr.mono (by decide)) passC (pa_cons (pv 5) (pa_cons (pe_slice sl_listN (pv 2) po_none (po_some (pv 1))) pa_nil))))) (pss_one (ps_ret pe_bl)) pss_nil)
      (pss_cons (ps_for PO rfl (pi_list (pe_slice sl_listN (pv 0) (po_some (pv 1)) po_none)) (pg_name (i := 3) sc__law_grown.nd rfl (by first | exact Or.inl rfl | exact Or.inr rfl))
        (pss_one (ps_expr (pe_mdS (pv 4) T.cl_Tariff D_put (hr.mono (by decide)) (fun σ => L2N.passAt (L2N.takes_of rfl rfl rfl rfl) σ) (pa_cons (pe_ix ix_tup (pv 3) pe_int (fun _ _ => rfl)) (pa_cons (pe_ix ix_tup (pv 3) pe_int (fun _ _ => rfl)) (pa_cons (pe_ix ix_tup (pv 3) pe_int (fun _ _ => rfl)) pa_nil)))))))
      (pss_one (ps_ret (pe_and (pe_fnS D_same (hr.mono (by decide)) passC (pa_cons (pe_fnS D_lines_of (hr.mono (by decide)) passC (pa_cons (pv 4) pa_nil)) (pa_cons (pv 2) pa_nil))) (pe_one (pe_cmpR (op_eqD hr.units) (pv 5) (pe_slice sl_listN (pv 2) po_none (po_some (pv 1))) (nomark _))))))))))), ?_⟩
    walk_at "s"
    refine ⟨⟨_, hq⟩, fun D hD => ?_⟩
    refine lc_listR (K := K) (xs := ts.map V.ref) (fun i v _ => ∃ r, rs[i]? = some r ∧ v = .str (lineOf r)) (fun _ _ _ _ _ h => h) hD hq (by rw [List.length_map]; omega) (fun v => rfl) ?_ ?_
    · intro i y H3 acc hi s3 hDl Q3 q3
      rw [List.getElem?_map] at hi
      obtain ⟨u, hu1, rfl⟩ := Option.map_eq_some_iff.mp hi
      obtain ⟨rr, hr1, hrow⟩ := paired_at hpr hu1
      have hrow3 : IsRow H3 u rr := s3 _ _ hrow
      have gr := hg.ok rr (List.mem_of_getElem? hr1)
      have hll := line_len gr
      have l1 := (isP_len gr.p1).2
      have l2 := (isP_len gr.p2).2
      obtain ⟨_, _, l3, _, _⟩ := fig_num gr.c
      have lb : blankS.length = 1 := by decide +kernel
      walk_at "s"
      refine ⟨_, _, _, _, rfl, rfl, SqT.of hrow3, rfl, ?_⟩
      walk_at "s"
      refine ⟨szl (by rw [lb]; omega), ?_⟩
      walk_at "s"
      refine ⟨_, _, _, _, rfl, rfl, SqT.of hrow3, rfl, ?_⟩
      walk_at "s"
      refine ⟨szl (by rw [len_app, lb]; omega), ?_⟩
      walk_at "s"
      refine ⟨szl (by rw [len_app, len_app, lb]; omega), ?_⟩
      walk_at "s"
      refine ⟨_, _, _, _, rfl, rfl, SqT.of hrow3, rfl, ?_⟩
      walk_at "s"
      refine ⟨log_price gr.c, ?_⟩
      walk_at "s"
      refine ⟨szl (by rw [len_app, len_app, len_app, lb]; show _ + (numS rr.2.2).length ≤ _; omega), ?_⟩
      exact q3 _ _ (Same.refl _) ⟨rr, hr1, rfl⟩
    intro H3 ys s3 hDl hl hr3
    rw [List.length_map] at hl
    have ey : ys = (rs.map lineOf).map V.str := by
      refine List.ext_getElem? fun i => ?_
      rw [List.map_map, List.getElem?_map]
      cases hy : ys[i]? with
      | none =>
        have h3 := List.getElem?_eq_none_iff.mp hy
        rw [List.getElem?_eq_none (by omega)]; rfl
      | some v =>
        obtain ⟨rr, hr1, rfl⟩ := hr3 i v hy
        rw [hr1]; rfl
    rw [ey] at hDl
    have hq3 := s3.seq hq
    have hD3 : SqL K H3 D ((rs.map lineOf).map V.str) := SqL.of hDl
    have ec1 : cutV (ts.map V.ref) none (some (c : Int)) = (ts.take c).map V.ref := by
      rw [cutV_map]
      unfold cutX
      rw [HT.sIx_none, HT.sIx_nat, List.drop_zero, Nat.sub_zero, Nat.min_eq_left (by omega)]
    have ec2 : cutV (ts.map V.ref) (some (c : Int)) none = (ts.drop c).map V.ref := by
      rw [cutV_map]
      unfold cutX
      rw [HT.sIx_none, HT.sIx_nat, Nat.min_eq_left (by omega)]
      rw [List.take_of_length_le (by rw [List.length_drop]; exact Nat.le_refl _)]
    have ec3 : cutV ((rs.map lineOf).map V.str) none (some (c : Int)) = ((rs.take c).map lineOf).map V.str := by
      rw [cutV_map]
      unfold cutX
      rw [HT.sIx_none, HT.sIx_nat, List.drop_zero, Nat.sub_zero, Nat.min_eq_left (by rw [List.length_map]; omega), List.map_take, List.map_take, List.map_take]
    have lok : ∀ z ∈ rs.map lineOf, okS 90000 z := fun z hz => by
      obtain ⟨rr, hr1, rfl⟩ := List.mem_map.mp hz
      exact (line_ok (hg.ok rr hr1)).mono (by decide)
    have lokc : ∀ z ∈ (rs.take c).map lineOf, okS 90000 z := fun z hz => by
      obtain ⟨rr, hr1, rfl⟩ := List.mem_map.mp hz
      exact (line_ok (hg.ok rr (List.mem_of_mem_take hr1))).mono (by decide)
    have gc := good_take hg c
    walk_at "s"
    refine ⟨_, _, rfl, hq3, fun b1 H4 nb1 s4 h4 => ?_⟩
    rw [ec1] at h4
    walk_at "s"
    intro x dx hx hdx hne
    have tk : takeRows [] ((rs.take c).map givenOf) = (0, rs.take c) := take_good (rs := []) (by simpa using gc) (by simp; omega)
    have m1 : Same H4 (upd (upd H4 dx (.own x)) x (.ins a.Tariff dx [])) := fun b o e => by rw [upd_ne (ne_of_none e hx), upd_ne (ne_of_none e hdx)]; exact e
    have s34 := Same.trans s3 s4
    refine ⟨x, dx, b1, ts.take c, (rs.take c).map givenOf, rfl, upd_same, m1 _ _ (s34 _ _ hP), SqL.of (m1 _ _ h4), given_rows (rows_same m1 (rows_same s34 (paired_take c hpr))), good_ask gc, by rw [List.length_map, List.length_take]; omega, fun _ d H5 hd5 sb5 T5 => ⟨rfl, ?_⟩, fun e => absurd (by rw [tk]) e⟩
    rw [tk] at T5
    have s5 : Same H4 H5 := fun b o e => sb5 _ _ (ne_of_none e hx) (m1 _ _ e)
    have nd5 : H4 d = none := m1.free hd5
    clear m1 sb5 hne hdx
    walk_at "s"
    refine ⟨by show (rs.take c).length ≤ 400; rw [List.length_take]; omega, fun L H6 nL s6 hL => ?_⟩
    have hL : H6 L = some (.lst (((rs.take c).map lineOf).map V.str)) := hL
    have s36 := Same.trans s4 (Same.trans s5 s6)
    have hD6 := s36.seq hD3
    walk_at "s"
    refine ⟨_, _, rfl, hD6, fun b2 H7 nb2 s7 h7 => ?_⟩
    rw [ec3] at h7
    walk_at "s"
    refine ⟨L, b2, rfl, .inl ⟨(rs.take c).map lineOf, s7 _ _ hL, SqL.of h7, by rw [List.length_map, List.length_take]; omega, lokc⟩, fun H8 s8 => ?_⟩
    have s38 := Same.trans s36 (Same.trans s7 s8)
    have hq8 := s38.seq hq3
    have hL8 := s8 _ _ (s7 _ _ hL)
    have T8 := T5.same (Same.trans s6 (Same.trans s7 s8))
    have hD8 := s38 _ _ hDl
    walk_at "s"
    refine ⟨_, _, rfl, hq8, fun b3 H9 nb3 s9 h9 => ?_⟩
    rw [ec2] at h9
    have s39 := Same.trans s38 s9
    have s09 := Same.trans s3 s39
    have nd0 : H d = none := s3.free (s4.free nd5)
    have prd := paired_drop c hpr
    walk_at "s"
    refine ⟨⟨_, SqL.of h9⟩, for_list (K := K) (a := b3) (xs := (ts.drop c).map V.ref) (fun i σ H' => ∃ v3, σ = [some (.ref r), some (.int (c : Int)), some (.ref D), v3, some (.ref x), some (.ref L)] ∧ Same H H' ∧ H' L = some (.lst (((rs.take c).map lineOf).map V.str)) ∧ H' D = some (.lst ((rs.map lineOf).map V.str)) ∧ H' b3 = some (.lst ((ts.drop c).map V.ref)) ∧ TarAt a.Tariff H' x d (rs.take (c + i))) ⟨none, rfl, s09, s9 _ _ hL8, s9 _ _ hD8, h9, T8.same s9⟩ (fun i σ H' _ ⟨_, _, _, _, _, h3, _⟩ => SqL.of h3) ?_ ?_⟩
    · rintro i y σ H15 hi ⟨v10, rfl, s15, hL15, hD15, h15, T15⟩
      rw [List.getElem?_map] at hi
      obtain ⟨u, hu1, rfl⟩ := Option.map_eq_some_iff.mp hi
      obtain ⟨rr, hr1, hrow⟩ := paired_at prd hu1
      rw [List.getElem?_drop] at hr1
      have il := (List.getElem?_eq_some_iff.mp hr1).1
      have gr1 := hg.ok rr (List.mem_of_getElem? hr1)
      have hrow15 : IsRow H15 u rr := s15 _ _ hrow
      obtain ⟨dx, hob⟩ := T15.ob
      walk_at "s"
      refine ⟨x, dx, _, rfl, hob, prices_no d (by decide), ?_⟩
      walk_at "s"
      refine ⟨_, _, _, _, rfl, rfl, SqT.of hrow15, rfl, ?_⟩
      walk_at "s"
      refine ⟨_, _, _, _, rfl, rfl, SqT.of hrow15, rfl, ?_⟩
      walk_at "s"
      refine ⟨_, _, _, _, rfl, rfl, SqT.of hrow15, rfl, ?_⟩
      walk_at "s"
      have pg := put_good (rs := rs.take (c + i)) gr1 (nd_fresh hg hr1) (by rw [List.length_take]; omega)
      refine ⟨x, d, _, _, _, rs.take (c + i), rfl, isP_ask gr1.p1, isP_ask gr1.p2, .inr (.inr (.inl ⟨_, rfl⟩)), s15 _ _ hP, T15, by rw [List.length_take]; omega, fun _ H16 sb16 T16 => ?_, fun e => absurd pg e⟩
      rw [show rs.take (c + i) ++ [mkRow (.str rr.1) (.str rr.2.1) (.int rr.2.2)] = rs.take (c + (i + 1)) from take_snoc hr1] at T16
      walk_at "s"
      have nz : ∀ {b : Addr} {zs : List V}, H15 b = some (.lst zs) → b ≠ d := fun h => ne_of h T15.dc (by intro z; cases z)
      exact ⟨same_mutB s15 nd0 sb16, sb16 _ _ (nz hL15) hL15, sb16 _ _ (nz hD15) hD15, sb16 _ _ (nz h15) h15, T16⟩
    rintro σ H15 ⟨v10, rfl, s15, hL15, hD15, _, T15⟩
    rw [List.length_map, List.length_drop, List.take_of_length_le (by omega)] at T15
    have hDq15 : SqL K H15 D ((rs.map lineOf).map V.str) := SqL.of hD15
    walk_at "s"
    refine ⟨by omega, fun Y H16 nY s16 hY => ?_⟩
    have hY : H16 Y = some (.lst ((rs.map lineOf).map V.str)) := hY
    have hD16 := s16 _ _ hD15
    walk_at "s"
    refine ⟨Y, D, rfl, .inl ⟨rs.map lineOf, hY, SqL.of hD16, by rw [List.length_map]; omega, lok⟩, fun H17 s17 => ?_⟩
    have hD17 : SqL K H17 D ((rs.map lineOf).map V.str) := SqL.of (s17 _ _ hD16)
    have hL17 : SqL K H17 L (((rs.take c).map lineOf).map V.str) := SqL.of (s17 _ _ (s16 _ _ hL15))
    walk_at "s"
    refine ⟨_, _, rfl, hD17, fun b4 H18 nb4 s18 h18 => ?_⟩
    rw [ec3] at h18
    have fl : ∀ v ∈ ((rs.take c).map lineOf).map V.str, flat v := fun v hv => by
      obtain ⟨z, hz, rfl⟩ := List.mem_map.mp hv
      exact .inr (.inr (.inr ⟨z, rfl, okS_data (lokc z hz)⟩))
    have sh := shaped_list fl
    refine ⟨_, _, .lst (s18.seq hL17) (dpAll_flat fl), .lst (SqL.of h18) (dpAll_flat fl), sh, sh, ?_⟩
    rw [eqv_self sh]
    exact q _ (Same.trans s15 (Same.trans s16 (Same.trans s17 s18)))
end
end Fb

namespace Fb
open PySem PySem.Spec PyProof.Rows L2
/-! ### x not in a list of data -/
def rNotInD (K : PySem.W.Frag) : R2 := fun x y H Q => ∃ (dx : PyData) (ds : List PyData), Dp K H x dx ∧ Dp K H y (.list ds) ∧ dx.canLay0 = true ∧ PyData.canLayAll0 ds = true ∧ dx.depth ≤ 10 ∧ Q (.bl (!ds.any fun d => d.eqv dx)) H
theorem op_notInD {X : Cx} (hu : X.A.units + 64 < cLine) : OpR X (compareOp .NotIn) (rNotInD X.K) := fun pins s σ H x y v u Q I rx ry ⟨dx, ds, hx, hy, l1, l2, dd, q⟩ => by
  obtain ⟨bs, r1⟩ := Dp.reads I dx x v hx rx
  obtain ⟨as, r2⟩ := Dp.reads I _ y u hy ry
  refine SeqAt.notIn_list_reads r2 r1 l2 l1 ?_ ⟨.bl _, H, I, rfl, q⟩
  have := Nat.min_le_right (PyData.depthAll ds) dx.depth
  omega
/-! ### a line that is read is the line that is written -/
def jn : List (List Nat) → List Nat
  | [] => []
  | [p] => p
  | p :: q :: r => p ++ [32] ++ jn (q :: r)
theorem jn_cons {p : List Nat} : ∀ {X : List (List Nat)}, X ≠ [] → jn (p :: X) = p ++ [32] ++ jn X
  | [], h => absurd rfl h
  | _ :: _, _ => rfl
theorem spl_ne : ∀ (l acc : List Nat), TL.spl [32] 0 acc l ≠ []
  | [], acc => by rw [TL.spl_nil]; simp
  | c :: r, acc => by
    cases q : TL.pre [32] (c :: r) with
    | true => rw [TL.spl_hit q]; simp
    | false => rw [TL.spl_miss q]; exact spl_ne r _
theorem jn_spl : ∀ (l acc : List Nat), jn (TL.spl [32] 0 acc l) = acc ++ l
  | [], acc => by rw [TL.spl_nil]; simp [jn]
  | c :: r, acc => by
    cases q : TL.pre [32] (c :: r) with
    | true =>
      have hc : c = 32 := by
        unfold TL.pre at q
        have : List.take 1 (c :: r) = [32] := beq_iff_eq.mp q
        simpa using this
      rw [TL.spl_hit q]
      show jn (acc :: TL.spl [32] 0 [] r) = _
      rw [jn_cons (spl_ne r []), jn_spl r []]
      subst hc
      simp
    | false =>
      rw [TL.spl_miss q, jn_spl r (acc ++ [c])]
      simp
theorem wds_join {z a b c : Str} (h : wds z = [a, b, c]) : z = a ++ blankS ++ b ++ blankS ++ c := by
  have e := TL.split_spl z blankS (by rw [blank_tl]; simp) (TL.kind_ok (by decide +kernel))
  rw [blank_tl] at e
  have e2 : (wds z).map TL.tl = TL.spl [32] 0 [] (TL.tl z) := e
  rw [h] at e2
  have e3 := jn_spl (TL.tl z) []
  rw [← e2] at e3
  refine TL.ext_tl ?_
  rw [TL.tl_append, TL.tl_append, TL.tl_append, TL.tl_append, blank_tl]
  have e4 : TL.tl a ++ [32] ++ (TL.tl b ++ [32] ++ TL.tl c) = TL.tl z := by simpa [jn] using e3
  rw [← e4]
  simp only [List.append_assoc]
theorem ofNat_back {c : Nat} (h1 : 48 ≤ c) (h2 : c ≤ 57) : (Char.ofNat c).toNat = c := by
  have : ∀ c : Nat, c < 58 → (Char.ofNat c).toNat = c := by decide
  exact this c (by omega)
theorem map_back : ∀ (l : List Nat), (∀ c ∈ l, 48 ≤ c ∧ c ≤ 57) → (l.map Char.ofNat).map Char.toNat = l
  | [], _ => rfl
  | c :: l, h => by
    obtain ⟨h1, h2⟩ := h c List.mem_cons_self
    rw [List.map_cons, List.map_cons, ofNat_back h1 h2, map_back l fun d hd => h d (List.mem_cons_of_mem _ hd)]
theorem fig_back {z : Str} (h : isFig z = true) : numS ((NumText.digitsVal z.cps.toList : Nat) : Int) = z := by
  have hd : ∀ c ∈ z.cps.toList, 48 ≤ c ∧ c ≤ 57 := fun c hc => by
    unfold isFig at h
    simp only [Bool.and_eq_true] at h
    have h2 := h.2
    split at h2
    · rw [of_decide_eq_true h2] at hc
      rw [List.mem_singleton.mp hc]; decide
    · have := List.all_eq_true.mp h2 c hc
      unfold digit at this
      simp only [Bool.and_eq_true, decide_eq_true_eq] at this
      exact this
  have hl : 1 ≤ z.cps.toList.length := by
    unfold isFig at h
    simp only [Bool.and_eq_true, decide_eq_true_eq] at h
    rw [← len_tl]; exact h.1.1
  have hcan : z.cps.toList.length - 1 = 0 ∨ ∃ c r, z.cps.toList = c :: r ∧ 49 ≤ c := by
    unfold isFig at h
    simp only [Bool.and_eq_true] at h
    have h2 := h.2
    split at h2
    · rw [of_decide_eq_true h2]; exact .inl rfl
    · rename_i hne
      cases e : z.cps.toList with
      | nil => rw [e] at hl; simp at hl
      | cons c r =>
        refine .inr ⟨c, r, rfl, ?_⟩
        have h3 := hd c (by rw [e]; exact List.mem_cons_self)
        have : c ≠ 48 := fun z => hne (by rw [e, z]; rfl)
        omega
  have e := NumText.toDigits_digitsVal (z.cps.toList.length - 1) z.cps.toList (by omega) hd hcan
  refine str_ext ?_
  rw [numS_nat]
  unfold TL.numL
  rw [e]
  exact map_back _ hd
theorem parse_back {z : Str} {r : Row} (h : parseL z = some r) : lineOf r = z := by
  unfold parseL at h
  split at h
  · rename_i a b c e
    split at h
    · cases h
    · split at h
      · rename_i hf
        cases h
        unfold lineOf
        rw [fig_back hf, ← wds_join e]
      · cases h
  · cases h
/-! ### all rows taken -/
theorem due_zero_row {rs : List Row} {r : Row} (h : putDue rs (.str r.1) (.str r.2.1) (.int r.2.2) = 0) : GoodRow r ∧ (r.1, r.2.1) ∉ (rs.map fun r => (r.1, r.2.1)) ∧ rs.length < 160 := by
  unfold putDue at h
  split at h
  · rename_i p1
    split at h
    · rename_i p2
      split at h
      · cases h
      · rename_i ne
        split at h
        · rename_i pc
          split at h
          · cases h
          · rename_i nt
            split at h
            · cases h
            · rename_i nl
              exact ⟨⟨p1, p2, fun e => ne (congrArg V.str e), pc⟩, fun hm => nt (told_iff.mpr hm), by omega⟩
        · cases h
    · cases h
  · cases h
theorem take_all : ∀ {rs' rs : List Row}, GoodRows rs → (takeRows rs (rs'.map givenOf)).1 = 0 → (takeRows rs (rs'.map givenOf)).2 = rs ++ rs' ∧ GoodRows (rs ++ rs') ∧ (rs' ≠ [] → (rs ++ rs').length ≤ 160)
  | [], rs, g, _ => ⟨by rw [List.append_nil]; rfl, by rw [List.append_nil]; exact g, fun h => absurd rfl h⟩
  | r :: rs', rs, g, h => by
    have e1 : takeRows rs ((r :: rs').map givenOf) = if putDue rs (.str r.1) (.str r.2.1) (.int r.2.2) = 0 then takeRows (rs ++ [r]) (rs'.map givenOf) else (putDue rs (.str r.1) (.str r.2.1) (.int r.2.2), rs) := rfl
    by_cases c : putDue rs (.str r.1) (.str r.2.1) (.int r.2.2) = 0
    · rw [e1, if_pos c] at h ⊢
      obtain ⟨g1, g2, g3⟩ := due_zero_row c
      have g4 := good_snoc g g1 g2
      obtain ⟨h1, h2, h3⟩ := take_all g4 h
      rw [List.append_assoc] at h1 h2 h3
      refine ⟨h1, h2, fun _ => ?_⟩
      cases rs' with
      | nil => rw [List.length_append]; show _ + 1 ≤ _; omega
      | cons y ys => exact h3 (by simp)
    · rw [e1, if_neg c] at h
      exact absurd h c
theorem putDue_le4 (rs : List Row) (x y z : V) : putDue rs x y z ≤ 4 := by
  unfold putDue
  split
  · split
    · split
      · decide
      · split
        · split
          · decide
          · split <;> decide
        · decide
    · decide
  · decide
theorem takeRows_le4 : ∀ (gs : List (V × V × V)) (rs : List Row), (takeRows rs gs).1 ≤ 4
  | [], rs => Nat.zero_le _
  | (x, y, z) :: r, rs => by
    show (if putDue rs x y z = 0 then takeRows (rs ++ [mkRow x y z]) r else (putDue rs x y z, rs)).1 ≤ 4
    split
    · exact takeRows_le4 r _
    · exact putDue_le4 rs x y z
end Fb

namespace Fb
open PySem PySem.Spec PyProof.Rows L2
local macro_rules | `(tactic| walk_at "s") => `(tactic| repeat (first | refine ⟨_, rfl, ?_⟩ | refine ⟨_, _, rfl, rfl, ?_⟩ | refine ⟨_, _, rfl, Or.inl (by assumption), ?_⟩ | refine ⟨rfl, ?_⟩ | refine ⟨(by decide : (0 : Int) < _), ?_⟩ | refine ⟨⟨by decide, by decide⟩, ?_⟩ | refine ⟨_, _, _, rfl, (by assumption), (by first | decide | omega), ?_⟩))
def spLaw (K : PySem.W.Frag) (P P2 : Addr) : Sp := fun vs H Q _ => ∃ (l : Addr) (ns : List Int), vs = [.ref l] ∧ SqL K H l (ns.map V.int) ∧ H P = some (TabO P) ∧ H P2 = some (TabO P2) ∧ ∀ H', H' P = some (TabO P) → H' P2 = some (TabO P2) → Q (.bl true) H'
def readD : Option Row → PyData
  | none => .none
  | some r => rowD r
theorem raw_flat {r : Row} (h1 : okS 90000 r.1) (h2 : okS 90000 r.2.1) : ∀ v ∈ rowV r, flat v := fun v hv => by
  unfold rowV at hv
  simp only [List.mem_cons, List.not_mem_nil, or_false] at hv
  rcases hv with e | e | e
  · exact .inr (.inr (.inr ⟨_, e, okS_data h1⟩))
  · exact .inr (.inr (.inr ⟨_, e, okS_data h2⟩))
  · exact .inr (.inr (.inl ⟨_, e⟩))
theorem parse_raw {z : Str} {r : Row} (hz : okS 1000 z) (h : parseL z = some r) : RawRow r := by
  have part : ∀ p ∈ wds z, okS 1000 p := fun p hp => by
    obtain ⟨l1, c1⟩ := split_parts_len p hp
    have := hz.1
    exact ⟨by omega, fun c hc => hz.2 c (c1 c hc)⟩
  unfold parseL at h
  split at h
  · rename_i x y c e
    rw [e] at part
    split at h
    · cases h
    · rename_i hne
      split at h
      · cases h
        exact ⟨fun e => hne (.inl e), fun e => hne (.inr (.inl e)), part _ (by simp), part _ (by simp), Int.natCast_nonneg _⟩
      · cases h
  · cases h
theorem read_lay {z : Str} (hz : okS 1000 z) : (readD (parseL z)).canLay0 = true := by
  cases e : parseL z with
  | none => rfl
  | some r =>
    have rw1 := parse_raw hz e
    have h := shaped_tup (raw_flat (rw1.o1.mono (by decide)) (rw1.o2.mono (by decide)))
    unfold SeqAt.shaped at h
    simp only [Bool.and_eq_true] at h
    exact h.1
theorem read_lays : ∀ {zs : List Str}, (∀ z ∈ zs, okS 1000 z) → PyData.canLayAll0 (zs.map fun z => readD (parseL z)) = true
  | [], _ => by simp [PyData.canLayAll0]
  | z :: zs, h => by
    rw [List.map_cons, PyData.canLayAll0, read_lay (h z List.mem_cons_self), read_lays fun y hy => h y (List.mem_cons_of_mem _ hy)]; rfl
theorem read_any {zs : List Str} : ((zs.map fun z => readD (parseL z)).any fun d => d.eqv .none) = true ↔ ∃ z ∈ zs, parseL z = none := by
  rw [List.any_eq_true]
  constructor
  · rintro ⟨d, hd, e⟩
    obtain ⟨z, hz, rfl⟩ := List.mem_map.mp hd
    refine ⟨z, hz, ?_⟩
    cases h : parseL z with
    | none => rfl
    | some r => rw [h] at e; cases e
  · rintro ⟨z, hz, e⟩
    exact ⟨_, List.mem_map.mpr ⟨z, hz, rfl⟩, by rw [e]; rfl⟩
theorem dpAll_at {K : PySem.W.Frag} {H : Hp} : ∀ {ys : List V} {ds : List PyData}, ys.length = ds.length → (∀ (i : Nat) v d, ys[i]? = some v → ds[i]? = some d → Dp K H v d) → DpAll K H ys ds
  | [], [], _, _ => .nil
  | y :: ys, d :: ds, hl, h => .cons (h 0 y d rfl rfl) (dpAll_at (by simpa using hl) fun i v e hv he => h (i + 1) v e (by simpa using hv) (by simpa using he))
  | [], _ :: _, hl, _ => by simp at hl
  | _ :: _, [], hl, _ => by simp at hl
theorem rowD_tup {K : PySem.W.Frag} {H : Hp} {t : Addr} {r : Row} (h1 : okS 90000 r.1) (h2 : okS 90000 r.2.1) (e : IsRow H t r) : Dp K H (.ref t) (rowD r) := .tup (SqT.of e) (dpAll_flat (raw_flat h1 h2))
theorem map_some_inj : ∀ {xs ys : List Row}, xs.map some = ys.map some → xs = ys
  | [], [], _ => rfl
  | x :: xs, y :: ys, h => by
    rw [List.map_cons, List.map_cons] at h
    have h2 := List.cons.inj h
    rw [Option.some.inj h2.1, map_some_inj h2.2]
  | [], _ :: _, h => by simp at h
  | _ :: _, [], h => by simp at h
/-- what the law's own reading gives -/
def ReadAt (H : Hp) (D : Addr) (zs : List Str) (i : Nat) (v : V) : Prop := ∃ z, zs[i]? = some z ∧ ((parseL z = none ∧ v = .non) ∨ ∃ r t, parseL z = some r ∧ v = .ref t ∧ t ≠ D ∧ IsRow H t r)
theorem dueT_said {n : Nat} (h0 : n ≠ 0) : dueT n = saidT n := by
  match n, h0 with
  | 1, _ => rfl
  | 2, _ => rfl
  | 3, _ => rfl
  | n + 4, _ => rfl
theorem errOf_kind {a : Ads} {n : Nat} (h0 : n ≠ 0) : errOf a n = kind5 a n := by
  match n, h0 with
  | 1, _ => rfl
  | 2, _ => rfl
  | 3, _ => rfl
  | n + 4, _ => rfl
abbrev s_law : Stmt := topS 32
abbrev N_law : List Str := ["_law_script", "_law_rows_here", "_law_lines_here", "_law_handed", "_law_read_here", "_law_line", "_law_due_here", "_law_found", "_law_error", "_law_row"]
theorem sc_law : FnScope N_law ["_law_script"] (defScope s_law) := ⟨rfl, rfl, rfl, by decide +kernel, rfl, by decide +kernel, by decide +kernel⟩
section
variable {Pg : Program} {w : World} {K : PySem.W.Frag} {mg : Str → Option Value} {base : Heap} {a : Ads}
theorem ok_law {f P P2 : Addr} {fd : FuncData} (F : Fun K "law" "law" s_law f fd) (T : Txt K mg a) (D_lines_of : Dn Pg w K mg base 2 "lines_of" ["tariff"] (spLinesOf K a)) (D_tariff_of : Dn Pg w K mg base 6 "tariff_of" ["lines"] (spTof2 K a P P2))
    (D_cell_at : Dn Pg w K mg base 1 "_law_cell_at" ["_law_script", "_law_k"] (spCell K)) (D_names : Dn Pg w K mg base 1 "_law_names" ["_law_cell", "_law_many"] spNames) (D_rows : Dn Pg w K mg base 2 "_law_rows" ["_law_script", "_law_names_here"] (spRows12 K)) (D_lines : Dn Pg w K mg base 2 "_law_lines" ["_law_script", "_law_rows_here"] (spLines12 K))
    (D_read : Dn Pg w K mg base 1 "_law_read" ["_law_line"] spRead) (D_due : Dn Pg w K mg base 1 "_law_due" ["_law_rows_here"] (spDue12 K)) (D_saidE : DnE Pg w K mg base 1 "_law_said" ["_law_error"] (spSaid12 a)) (D_same : Dn Pg w K mg base 1 "_law_same" ["_law_found", "_law_due_here"] (spSame K)) (D_grown : Dn Pg w K mg base 6 "_law_grown" ["_law_rows_here", "_law_cut"] (spGrown K a P))
    (D_put : Dm Pg w K mg base 3 a.Tariff "put" ["self", "here", "there", "price"] (spPut a P)) (D_price : Dm Pg w K mg base 1 a.Tariff "price" ["self", "here", "there"] (spPrice a)) (D_told : Dm Pg w K mg base 1 a.Tariff "told" ["self"] (spTold a)) : FnOk Pg w K mg base (L2N.CX Pg w) 8 f fd ["_law_script"] (spLaw K P P2) := by
  refine F.okN sc_law (fun vs H Q E h => ?_) (fun cdv A outer s H vs Q E hr h => ?_)
  · obtain ⟨_, _, rfl, _⟩ := h
    rfl
  · obtain ⟨l, ns, rfl, hs, hP, hP2, q⟩ := h
    have PO : PassesOwn (model Pg w) (A.deeper (envOfC "law" (defScope s_law) s.heap.objs.size f cdv)) (envOfC "law" (defScope s_law) s.heap.objs.size f cdv) (cxOf (L2N.CX Pg w) Pg w K mg base N_law "law" (defScope s_law) f cdv A outer s H E).xe := passes_of rfl
    refine ⟨_, (pss_cons (ps_set (i := 1) sc_law.nd rfl (by first | exact Or.inl rfl | exact Or.inr rfl) (pe_fnS D_rows (hr.mono (by decide)) passC (pa_cons (pv 0) (pa_cons (pe_fnS D_names (hr.mono (by decide)) passC (pa_cons (pe_fnS D_cell_at (hr.mono (by decide)) passC (pa_cons (pv 0) (pa_cons pe_int pa_nil))) (pa_cons pe_int pa_nil))) pa_nil))))
      (pss_cons (ps_if (pt_not (pt_val (pe_fnS D_grown (hr.mono (by decide)) passC (pa_cons (pv 1) (pa_cons (pe_op op_mod (pe_fnS D_cell_at (hr.mono (by decide)) passC (pa_cons (pv 0) (pa_cons pe_int pa_nil))) (pe_op op_add (pe_callB call_len_seq (by rfl) T.n_len (by decide +kernel) (pa_cons (pv 1) pa_nil)) pe_int)) pa_nil))))) (pss_one (ps_ret pe_bl)) pss_nil)
      (pss_cons (ps_set (i := 2) sc_law.nd rfl (by first | exact Or.inl rfl | exact Or.inr rfl) (pe_fnS D_lines (hr.mono (by decide)) passC (pa_cons (pv 0) (pa_cons (pv 1) pa_nil))))
      (pss_cons (ps_set (i := 3) sc_law.nd rfl (by first | exact Or.inl rfl | exact Or.inr rfl) (pe_callTy call_list_ofN (by rfl) T.n_list (by decide +kernel) (pa_cons (pv 2) pa_nil)))
      (pss_cons (ps_setLc (i := 4) (own := [("_law_line", 5)]) (g := (gName 5)) (tt := tYes) rfl sc_law.nd rfl rfl (sw_true rfl rfl rfl (by decide +kernel)) (pi_list (pv 2)) (blkOk_by (own := [("_law_line", 5)]) (N := N_law) (sc := (defScope s_law)) (by decide +kernel)) (fun _ _ _ _ _ => (pg_name (i := 5) sc_law.nd rfl (by first | exact Or.inl rfl | exact Or.inr rfl))) (fun _ _ _ _ _ => pts_nil) (fun _ _ _ _ _ => (pe_fnS D_read (hr.mono (by decide)) passC (pa_cons (pv 5) pa_nil))))
      (pss_cons (ps_set (i := 6) sc_law.nd rfl (by first | exact Or.inl rfl | exact Or.inr rfl) pe_str)
      (C8.pss_cut (ps_if (pt_cmpR (op_notInD hr.units) pe_non (pv 4) rfl) (pss_one (ps_set (i := 6) sc_law.nd rfl (by first | exact Or.inl rfl | exact Or.inr rfl) (pe_fnS D_due (hr.mono (by decide)) passC (pa_cons (pv 4) pa_nil)))) pss_nil)
      (pss_cons (L2N.ps_try_as (i := 8) rfl rfl sc_law.nd rfl rfl ⟨rfl, by decide, .inl T.x_FareError.g⟩ takesN0
        (fun W pn xe tk PO => (pss_one (ps_set (i := 7) sc_law.nd rfl (by first | exact Or.inl rfl | exact Or.inr rfl) (pe_fnS D_tariff_of (hr.mono (by decide)) (fun σ => L2N.passAt tk σ) (pa_cons (pv 3) pa_nil)))))
        (fun a_e oe cls d pn hz hf => (pss_one (ps_ret (pe_and (pe_cmpR op_eq (pe_fnEG D_saidE (roomE hr (by decide)) hz hf passC (pa_cons (pv 8) pa_nil)) (pv 6) (nomark _)) (pe_one (pe_cmpR (op_eqS (K := K) hr.units) (pv 3) (pv 2) (nomark _))))))))
      (pss_cons (ps_if (PW.pt (pw_or (pt_cmpR op_ne (pv 6) pe_str (nomark _)) (pw_or1 (pt_cmpR (op_neD hr.units) (pe_lc (own := [("_law_row", 9)]) (g := (gName 9)) (tt := _) rfl sc_law.nd (pi_list (pv 4)) (blkOk_by (own := [("_law_row", 9)]) (N := N_law) (sc := (defScope s_law)) (by decide +kernel)) (fun _ _ _ _ _ => (pg_name (i := 9) sc_law.nd rfl (by first | exact Or.inl rfl | exact Or.inr rfl))) (fun _ _ _ _ _ => pts_one (pt_cmpR op_ne (pe_mdS (pv 7) T.cl_Tariff D_price (hr.mono (by decide)) passC (pa_cons (pe_ix (ix_tupS (K := K)) (pv 9) pe_int (fun _ _ => rfl)) (pa_cons (pe_ix (ix_tupS (K := K)) (pv 9) pe_int (fun _ _ => rfl)) pa_nil))) (pe_ix (ix_tupS (K := K)) (pv 9) pe_int (fun _ _ => rfl)) (nomark _))) (fun _ _ _ _ _ => pe_int)) (pe_lstN pa_nil) (nomark _))))) (pss_one (ps_ret pe_bl)) pss_nil)
      (pss_cons (ps_if (PW.pt (pw_or (pt_not (pt_val (pe_fnS D_same (hr.mono (by decide)) passC (pa_cons (pe_mdS0 (pv 7) T.cl_Tariff D_told (hr.mono (by decide)) passC) (pa_cons (pv 4) pa_nil))))) (pw_or (pt_not (pt_val (pe_fnS D_same (hr.mono (by decide)) passC (pa_cons (pe_fnS D_lines_of (hr.mono (by decide)) passC (pa_cons (pv 7) pa_nil)) (pa_cons (pv 2) pa_nil))))) (pw_or1 (pt_cmpR (op_neD hr.units) (pv 3) (pv 2) (nomark _)))))) (pss_one (ps_ret pe_bl)) pss_nil)
      (pss_cons (ps_expr (pe_bm0 PySem.F.plainAttrs_list PySem.F.slot_list_clear PySem.F.type_list_clear mt_clearN (pv 3)))
      (pss_cons (ps_if (PW.pt (pw_or (pt_cmpR op_gt (pe_callB call_len_seq (by rfl) T.n_len (by decide +kernel) (pa_cons (pv 4) pa_nil)) pe_int (nomark _)) (pw_or1 (pt_cmpR (op_neD hr.units) (pe_lc (own := [("_law_row", 9)]) (g := (gName 9)) (tt := _) rfl sc_law.nd (pi_list (pv 4)) (blkOk_by (own := [("_law_row", 9)]) (N := N_law) (sc := (defScope s_law)) (by decide +kernel)) (fun _ _ _ _ _ => (pg_name (i := 9) sc_law.nd rfl (by first | exact Or.inl rfl | exact Or.inr rfl))) (fun _ _ _ _ _ => pts_one (PW.pt (pw_and (pt_cmpR op_eq (pe_ix (ix_tupS (K := K)) (pv 9) pe_int (fun _ _ => rfl)) pe_str (nomark _)) (pw_and1 (pt_cmpR op_eq (pe_ix (ix_tupS (K := K)) (pv 9) pe_int (fun _ _ => rfl)) pe_str (nomark _)))))) (fun _ _ _ _ _ => pe_int)) (pe_lstN pa_nil) (nomark _))))) (pss_one (ps_ret (pe_fnS D_same (hr.mono (by decide)) passC (pa_cons (pe_mdS0 (pv 7) T.cl_Tariff D_told (hr.mono (by decide)) passC) (pa_cons (pv 4) pa_nil))))) pss_nil)
      (pss_cons (ps_expr (pe_mdS (pv 7) T.cl_Tariff D_put (hr.mono (by decide)) (fun σ => L2N.passAt (L2N.takes_of rfl rfl rfl rfl) σ) (pa_cons pe_str (pa_cons pe_str (pa_cons pe_int pa_nil)))))
      (pss_one (ps_ret (pe_and (pe_fnS D_same (hr.mono (by decide)) passC (pa_cons (pe_fnS D_lines_of (hr.mono (by decide)) passC (pa_cons (pv 7) pa_nil)) (pa_cons (pe_op op_catN (pv 2) (pe_lstN (pa_cons pe_str pa_nil))) pa_nil))) (pe_one (pe_cmpR op_eq (pe_mdS (pv 7) T.cl_Tariff D_price (hr.mono (by decide)) passC (pa_cons pe_str (pa_cons pe_str pa_nil))) pe_int (nomark _))))))))))))))))))), ?_⟩
    walk_at "s"
    refine ⟨cel ns 0, 9, rfl, by decide, fun nl H1 n1 s1 h1 => ?_⟩
    have hs1 := s1.seq hs
    have hn1 : SqL K H1 nl (namesV (cel ns 0) 9) := SqL.of h1
    walk_at "s"
    refine ⟨l, nl, ns, cel ns 0, rfl, hs1, hn1, fun rw2 H2 ts rs n2 s2 h2 pr gr hlen => ?_⟩
    have s02 := Same.trans s1 s2
    have hs2 := s02.seq hs
    have hq2 : SqL K H2 rw2 (ts.map V.ref) := SqL.of h2
    have lts := Paired.length pr
    walk_at "s"
    refine ⟨by rw [List.length_map]; omega, ?_⟩
    obtain ⟨c, ec, hc⟩ : ∃ c : Nat, cel ns 5 % (((ts.map V.ref).length : Int) + 1) = (c : Int) ∧ c ≤ rs.length := by
      rw [List.length_map]
      obtain ⟨c, e1, e2⟩ := modN (cel ns 5) (n := ts.length + 1) (by omega)
      exact ⟨c, by rw [← e1]; rfl, by omega⟩
    walk_at "s"
    refine ⟨rw2, ts, rs, c, _, rfl, ec, hc, hq2, pr, gr, hlen, s02 _ _ hP, fun H3 s3 => ?_⟩
    have s03 := Same.trans s02 s3
    have hs3 := s03.seq hs
    have hq3 := s3.seq hq2
    walk_at "s"
    refine ⟨l, rw2, ns, ts, rs, rfl, hs3, hq3, rows_same s3 pr, gr, hlen, fun Lz H4 zs nL s4 hL okz lz => ?_⟩
    have s04 := Same.trans s03 s4
    have hLq : SqL K H4 Lz (zs.map V.str) := SqL.of hL
    walk_at "s"
    intro Hd H5 nH s5 hH
    have s05 := Same.trans s04 s5
    have hL5 := s5 _ _ hL
    have hLq5 : SqL K H5 Lz (zs.map V.str) := SqL.of hL5
    walk_at "s"
    refine ⟨⟨_, hLq5⟩, fun D hD => ?_⟩
    refine lc_listR (K := K) (xs := zs.map V.str) (fun i v H' => ReadAt H' D zs i v) ?_ hD hLq5 (by rw [List.length_map]; omega) (fun v => rfl) ?_ ?_
    · rintro i v H2 H3 sb ⟨z, hz1, h | ⟨r, t, e1, e2, e3, e4⟩⟩
      · exact ⟨z, hz1, .inl h⟩
      · exact ⟨z, hz1, .inr ⟨r, t, e1, e2, e3, sb _ _ e3 e4⟩⟩
    · intro i y H6 acc hi s6 hDl Q6 q6
      rw [List.getElem?_map] at hi
      obtain ⟨z, hz1, rfl⟩ := Option.map_eq_some_iff.mp hi
      have oz := okz z (List.mem_of_getElem? hz1)
      walk_at "s"
      refine ⟨oz, fun e H7 s7 => q6 _ _ s7 ⟨z, hz1, .inl ⟨e, rfl⟩⟩, fun r e t H7 nt s7 h7 => q6 _ _ s7 ⟨z, hz1, .inr ⟨r, t, e, rfl, (ne_of_none hDl nt).symm, h7⟩⟩⟩
    intro H6 ys s6 hDl hly hry
    rw [List.length_map] at hly
    have s06 := Same.trans s05 s6
    have hDq : SqL K H6 D ys := SqL.of hDl
    have dpy : DpAll K H6 ys (zs.map fun z => readD (parseL z)) := dpAll_at (by rw [List.length_map]; exact hly) fun i v d hv hd => by
      obtain ⟨z, hz1, h⟩ := hry i v hv
      rw [List.getElem?_map, hz1] at hd
      cases hd
      have oz := okz z (List.mem_of_getElem? hz1)
      rcases h with ⟨e, rfl⟩ | ⟨r, t, e, rfl, _, hrow⟩
      · show Dp K H6 _ (readD (parseL z))
        rw [e]; exact .non
      · show Dp K H6 _ (readD (parseL z))
        rw [e]
        have rw1 := parse_raw oz e
        exact rowD_tup (rw1.o1.mono (by decide)) (rw1.o2.mono (by decide)) hrow
    obtain ⟨wd, wd1, wd2⟩ : ∃ wd : Str, (∀ rs' : List Row, zs.map parseL = rs'.map some → wd = dueT (takeRows [] (rs'.map givenOf)).1) ∧ ((∃ z ∈ zs, parseL z = none) → wd = Str.ofString "line") := by
      by_cases hall : ∃ z ∈ zs, parseL z = none
      · refine ⟨Str.ofString "line", fun rs' e => ?_, fun _ => rfl⟩
        obtain ⟨z, hz, en⟩ := hall
        have : (none : Option Row) ∈ rs'.map some := by rw [← e]; exact List.mem_map.mpr ⟨z, hz, en⟩
        obtain ⟨_, _, h⟩ := List.mem_map.mp this
        cases h
      · have h2 : ∀ z ∈ zs, ∃ r, parseL z = some r := fun z hz => by
          cases e : parseL z with
          | none => exact absurd ⟨z, hz, e⟩ hall
          | some r => exact ⟨r, rfl⟩
        obtain ⟨rs0, e0⟩ := parse_all h2
        refine ⟨dueT (takeRows [] (rs0.map givenOf)).1, fun rs' e => ?_, fun h => absurd h hall⟩
        have : rs' = rs0 := by
          have := e.symm.trans e0
          exact map_some_inj this
        rw [this]
    have rowsOf : ∀ rs' : List Row, zs.map parseL = rs'.map some → ∃ us : List Addr, ys = us.map V.ref ∧ Paired (IsRow H6) us rs' ∧ rs'.length = zs.length ∧ ∀ q ∈ rs', RawRow q := fun rs' e => by
      have lr : zs.length = rs'.length := by have := congrArg List.length e; simpa using this
      have at_ : ∀ (i : Nat) (z : Str), zs[i]? = some z → ∃ r, rs'[i]? = some r ∧ parseL z = some r := fun i z hz => by
        have h4 : (zs.map parseL)[i]? = (rs'.map some)[i]? := by rw [e]
        rw [List.getElem?_map, hz, List.getElem?_map] at h4
        cases hri : rs'[i]? with
        | none => rw [hri] at h4; cases h4
        | some r => rw [hri] at h4; exact ⟨r, rfl, Option.some.inj h4⟩
      obtain ⟨us, e2, hp⟩ := pair_of (R := fun t r => IsRow H6 t r) (hly.trans lr) fun i v hv => by
        obtain ⟨z, hz1, h⟩ := hry i v hv
        obtain ⟨r, hr1, er⟩ := at_ i z hz1
        rcases h with ⟨en, _⟩ | ⟨r', t, e1, e2, _, hrow⟩
        · rw [en] at er; cases er
        · rw [er] at e1; cases e1
          exact ⟨t, e2, r, hr1, hrow⟩
      refine ⟨us, e2, hp, lr.symm, fun q hq => ?_⟩
      obtain ⟨i, hi⟩ := List.getElem?_of_mem hq
      have il := (List.getElem?_eq_some_iff.mp hi).1
      obtain ⟨r, hr1, er⟩ := at_ i _ (List.getElem?_eq_getElem (by omega))
      rw [hi] at hr1; cases hr1
      exact parse_raw (okz _ (List.getElem_mem _)) er
    have ndef : (¬ ∃ z ∈ zs, parseL z = none) → ∃ rs0 : List Row, zs.map parseL = rs0.map some := fun hall => parse_all fun z hz => by
      cases e : parseL z with
      | none => exact absurd ⟨z, hz, e⟩ hall
      | some r => exact ⟨r, rfl⟩
    walk_at "s"
    refine ⟨fun σ' H' => σ' = [some (.ref l), some (.ref rw2), some (.ref Lz), some (.ref Hd), some (.ref D), none, some (.str wd), none, none, none] ∧ Same H6 H', ?_, ?_⟩
    · walk_at "s"
      refine ⟨.none, _, .non, .lst hDq dpy, rfl, read_lays okz, by decide, ?_⟩
      by_cases hall : ∃ z ∈ zs, parseL z = none
      · rw [read_any.mpr hall]
        walk_at "s"
        exact ⟨by rw [wd2 hall]; rfl, Same.refl _⟩
      · have e : ((zs.map fun z => readD (parseL z)).any fun d => d.eqv .none) = false := by
          cases h : ((zs.map fun z => readD (parseL z)).any fun d => d.eqv .none) with
          | false => rfl
          | true => exact absurd (read_any.mp h) hall
        rw [e]
        obtain ⟨rs0, e0⟩ := ndef hall
        obtain ⟨us, eu, hpu, hlu, raw0⟩ := rowsOf rs0 e0
        subst eu
        walk_at "s"
        refine ⟨raw0, by omega, fun H7 s7 => ?_⟩
        rw [← wd1 rs0 e0]
        exact ⟨rfl, s7⟩
    rintro σ1 H7 ⟨rfl, s7⟩
    have s07 := Same.trans s06 s7
    have s57 := Same.trans s6 s7
    have hH7 := s57 _ _ hH
    have hL7 := s57 _ _ hL5
    have fls : ∀ v ∈ zs.map V.str, flat v := fun v hv => by
      obtain ⟨z, hz, rfl⟩ := List.mem_map.mp hv
      exact .inr (.inr (.inr ⟨z, rfl, okS_data (okz z hz)⟩))
    have shs := shaped_list fls
    walk_at "s"
    refine ⟨Hd, zs, rfl, SqL.of hH7, by omega, okz, s07 _ _ hP, s07 _ _ hP2, fun z hz ez H8 s8 => ?_, fun rs' e e0 x d H8 nx nd s8 T8 => ?_, fun rs' e e0 H8 s8 => ?_⟩
    · rw [wd2 ⟨z, hz, ez⟩]
      refine ⟨true, T.e_BadLine, fun _ ae hae => ?_, fun z => nomatch z⟩
      walk_at "s"
      refine ⟨0, rfl, rfl, by decide, fun H9 s9 => ?_⟩
      have s79 := Same.trans s8 s9
      walk_at "s"
      refine ⟨_, _, .lst (SqL.of (s79 _ _ hH7)) (dpAll_flat fls), .lst (SqL.of (s79 _ _ hL7)) (dpAll_flat fls), shs, shs, ?_⟩
      rw [eqv_self shs]
      exact q _ (Same.trans s07 s79 _ _ hP) (Same.trans s07 s79 _ _ hP2)
    · --@ok
      have tk0 : takeRows [] (rs'.map givenOf) = ((takeRows [] (rs'.map givenOf)).1, (takeRows [] (rs'.map givenOf)).2) := rfl
      obtain ⟨tk1, tk2, tk3⟩ := take_all (rs' := rs') (rs := []) ⟨(fun _ h => by cases h), List.nodup_nil⟩ e0
      rw [List.nil_append] at tk1 tk2 tk3
      rw [tk1] at T8
      obtain ⟨us, eu, hpu, hlu, raw0⟩ := rowsOf rs' e
      subst eu
      have l160 : rs'.length ≤ 160 := by
        cases rs' with
        | nil => exact Nat.zero_le _
        | cons y ys => exact tk3 (by simp)
      have ewd : wd = Str.ofString "" := by rw [wd1 rs' e, e0]; rfl
      subst ewd
      have lus : us.length = rs'.length := Paired.length hpu
      have ezl : zs = rs'.map lineOf := by
        refine List.ext_getElem? fun i => ?_
        have h4 : (zs.map parseL)[i]? = (rs'.map some)[i]? := by rw [e]
        rw [List.getElem?_map, List.getElem?_map] at h4
        rw [List.getElem?_map]
        cases hz : zs[i]? with
        | none => rw [hz] at h4; cases hr : rs'[i]? with
          | none => rfl
          | some r => rw [hr] at h4; cases h4
        | some z =>
          rw [hz] at h4
          cases hr : rs'[i]? with
          | none => rw [hr] at h4; cases h4
          | some r =>
            rw [hr] at h4
            exact congrArg some (parse_back (Option.some.inj h4)).symm
      have s68 := Same.trans s7 s8
      have hD8 : H8 D = some (.lst (us.map V.ref)) := s68 _ _ hDl
      have hp8 := rows_same s68 hpu
      clear e0 tk0 tk3
      walk_at "s"
      refine ⟨⟨_, SqL.of hD8⟩, fun D2 hD2 => ?_⟩
      refine lc_pick (K := K) (xs := us.map V.ref) (fun _ => false) (fun _ => .int 1) hD2 (SqL.of hD8) (by rw [List.length_map]; omega) (fun v => rfl) ?_ ?_ ?_
      · intro i y H9 hi s9 Q2 q2
        rw [List.getElem?_map] at hi
        obtain ⟨u, hu1, rfl⟩ := Option.map_eq_some_iff.mp hi
        obtain ⟨rr, hr1, hrow⟩ := paired_at hp8 hu1
        have hrow9 : IsRow H9 u rr := s9 _ _ hrow
        obtain ⟨dx9, hob9⟩ := (T8.same s9).ob
        walk_at "s"
        refine ⟨x, dx9, _, rfl, hob9, prices_no d (by decide), ?_⟩
        walk_at "s"
        refine ⟨_, _, _, _, rfl, rfl, SqT.of hrow9, rfl, ?_⟩
        walk_at "s"
        refine ⟨_, _, _, _, rfl, rfl, SqT.of hrow9, rfl, ?_⟩
        refine ⟨x, d, rr.1, rr.2.1, rs', rfl, T8.same s9, fun H10 s10 => ?_⟩
        rw [look_row tk2 (List.mem_of_getElem? hr1)]
        walk_at "s"
        refine ⟨_, _, _, _, rfl, rfl, SqT.of (s10 _ _ hrow9), rfl, ?_⟩
        walk_at "s"
        rw [decide_eq_true rfl]
        exact q2 _ s10
      · intro i y H9 hi s9 Q2 q2
        exact q2 _ (Same.refl _)
      intro H9 s9 hDl2
      have en : pick (fun _ => false) (fun _ => V.int 1) (us.map V.ref).length = [] := List.isEmpty_iff.mp (pick_nil.mpr fun _ _ => rfl)
      rw [en] at hDl2
      have noD : ∀ v ∈ ([] : List V), flat v := fun v hv => by cases hv
      walk_at "s"
      refine ⟨Nat.zero_le _, fun D3 H10 hD3 s10 h10 => ?_⟩
      refine ⟨.list [], .list [], .lst (SqL.of (s10 _ _ hDl2)) .nil, .lst (SqL.of h10) .nil, shaped_list noD, shaped_list noD, ?_⟩
      rw [show PyData.eqv (.list []) (.list []) = true from eqv_self (shaped_list (xs := []) fun v hv => by cases hv)]
      have s8a := Same.trans s9 s10
      have T10 := T8.same s8a
      walk_at "s"
      obtain ⟨dx10, hob10⟩ := T10.ob
      refine ⟨x, dx10, _, rfl, hob10, prices_no d (by decide), ?_⟩
      walk_at "s"
      intro q1 H11 ts1 nq s11 h11 p11
      have s8b := Same.trans s8a s11
      walk_at "s"
      refine ⟨q1, D, rfl, .inr ⟨ts1, us, rs', h11, SqL.of (s8b _ _ hD8), p11, rows_same s8b hp8, tk2, by omega⟩, fun H12 s12 => ?_⟩
      have s8c := Same.trans s8b s12
      have T12 := T8.same s8c
      walk_at "s"
      refine ⟨by omega, fun L H13 nL s13 h13 => ?_⟩
      have s8d := Same.trans s8c s13
      have hL13 := Same.trans s8 s8d _ _ hL7
      have hH13 := Same.trans s8 s8d _ _ hH7
      have ok9 : ∀ z ∈ zs, okS 90000 z := fun z hz => (okz z hz).mono (by decide)
      rw [← ezl] at h13
      walk_at "s"
      refine ⟨L, Lz, rfl, .inl ⟨zs, h13, SqL.of hL13, by omega, ok9⟩, fun H14 s14 => ?_⟩
      have s8e := Same.trans s8d s14
      have hL14 := s14 _ _ hL13
      have hH14 := s14 _ _ hH13
      walk_at "s"
      refine ⟨_, _, .lst (SqL.of hH14) (dpAll_flat fls), .lst (SqL.of hL14) (dpAll_flat fls), shs, shs, ?_⟩
      rw [eqv_self shs]
      walk_at "s"
      refine ⟨.inl ⟨rfl, _, SqL.of hH14⟩, ?_⟩
      have nHx : Hd ≠ x := fun e => by rw [e] at hH7; rw [nx] at hH7; cases hH7
      have nHd : Hd ≠ d := fun e => by rw [e] at hH7; rw [nd] at hH7; cases hH7
      have nHD : D ≠ Hd := fun e => by rw [← e] at hH; rw [hD] at hH; cases hH
      have nHL : Lz ≠ Hd := fun e => by rw [← e] at nH; rw [nH] at hL; cases hL
      have s8f := Same.trans s8d s14
      have s014 := Same.trans s07 (Same.trans s8 s8f)
      have hP14 := s014 _ _ hP
      have hP214 := s014 _ _ hP2
      have hD14 := s8f _ _ hD8
      have hp14 := rows_same s8f hp8
      have T14 := T8.same s8f
      clear h11 p11 h13 s8e T12 T10 s8a s8b s8c s8d s014 s8f hD8 hp8 T8 hH13 hL13 hL7 hH7 s14 s13 s12 s11 s10 s9 hDl2 hDl h10 s8 s68 hP hP2
      refine ⟨Hd, _, rfl, rfl, hH14, fun H15 sb15 h15 => ?_⟩
      have tbl : ∀ {b : Addr} {o : HO}, H14 b = some o → (∀ xs, o ≠ .lst xs) → H15 b = some o := fun {b o} h n => sb15 _ _ (fun e => by rw [e, hH14] at h; exact n _ (Option.some.inj h).symm) h
      have hP15 : H15 P = some (TabO P) := tbl hP14 (fun xs z => by cases z)
      have hP215 : H15 P2 = some (TabO P2) := tbl hP214 (fun xs z => by cases z)
      have hD15 := sb15 _ _ nHD hD14
      have hL15 := sb15 _ _ nHL hL14
      have T15 : TarAt a.Tariff H15 x d rs' := T14.keep fun b o hb e => sb15 _ _ (by rcases hb with rfl | rfl; exact fun e => nHx e.symm; exact fun e => nHd e.symm) e
      have hp15 : Paired (IsRow H15) us rs' := Paired.mapP hp14 fun _ _ e => tbl e (fun xs z => by cases z)
      clear hL14 hH14 hP14 hP214 hD14 hp14 T14
      obtain ⟨dx15, hob15⟩ := T15.ob
      walk_at "s"
      refine ⟨_, _, rfl, .inl (SqL.of hD15), ?_⟩
      walk_at "s"
      refine ifD (fun c1 => ?_) (fun c1 => ?_)
      · walk_at "s"
        refine ⟨x, dx15, _, rfl, hob15, prices_no d (by decide), ?_⟩
        walk_at "s"
        intro q1 H16 ts1 nq s16 h16 p16
        walk_at "s"
        refine ⟨q1, D, rfl, .inr ⟨ts1, us, rs', h16, SqL.of (s16 _ _ hD15), p16, rows_same s16 hp15, tk2, by omega⟩, fun H17 s17 => ?_⟩
        exact q _ (Same.trans s16 s17 _ _ hP15) (Same.trans s16 s17 _ _ hP215)
      have l150 : rs'.length ≤ 150 := by
        rw [List.length_map, lus] at c1
        have : ¬ ((150 : Int) < (rs'.length : Int)) := c1
        omega
      walk_at "s"
      refine ⟨⟨_, SqL.of hD15⟩, fun D4 hD4 => ?_⟩
      refine lc_pick (K := K) (xs := us.map V.ref) (hitR rs' (Str.ofString "yyyy") (Str.ofString "xxxx")) (fun _ => .int 1) hD4 (SqL.of hD15) (by rw [List.length_map]; omega) (fun v => rfl) ?_ ?_ ?_
      · intro i2 y2 H16 hi2 s16 Q2 q2
        rw [List.getElem?_map] at hi2
        obtain ⟨u, hu1, rfl⟩ := Option.map_eq_some_iff.mp hi2
        obtain ⟨rr, hr1, hrow⟩ := paired_at hp15 hu1
        have hrow16 : IsRow H16 u rr := s16 _ _ hrow
        rw [hitR_at hr1] at q2
        walk_at "s"
        refine ⟨_, _, _, _, rfl, rfl, SqT.of hrow16, rfl, ?_⟩
        walk_at "s"
        refine ifD (fun d1 => ?_) (fun d1 => ?_)
        · rw [decide_eq_true (V.str.inj d1), Bool.true_and] at q2
          walk_at "s"
          refine ⟨_, _, _, _, rfl, rfl, SqT.of hrow16, rfl, ?_⟩
          walk_at "s"
          rw [show decide (V.str rr.2.1 = V.str (Str.ofString "xxxx")) = decide (rr.2.1 = Str.ofString "xxxx") from decide_eq_decide.mpr ⟨V.str.inj, fun e => congrArg V.str e⟩]
          exact q2 _ (Same.refl _)
        · rw [decide_eq_false (fun e => d1 (congrArg V.str e)), Bool.false_and] at q2
          exact q2 _ (Same.refl _)
      · intro i2 y2 H16 hi2 s16 Q2 q2
        exact q2 _ (Same.refl _)
      intro H16 s16 hDl4
      rw [List.length_map, lus] at hDl4
      have hf : ∀ v ∈ pick (hitR rs' (Str.ofString "yyyy") (Str.ofString "xxxx")) (fun _ => V.int 1) rs'.length, flat v := fun v hv => by
        obtain ⟨_, _, rfl⟩ := List.mem_map.mp hv
        exact .inr (.inr (.inl ⟨_, rfl⟩))
      walk_at "s"
      refine ⟨Nat.zero_le _, fun D5 H17 hD5 s17 h17 => ?_⟩
      refine ⟨_, .list [], .lst (SqL.of (s17 _ _ hDl4)) (dpAll_flat hf), .lst (SqL.of h17) .nil, shaped_list hf, shaped_list (xs := []) (fun v hv => by cases hv), ?_⟩
      rw [eqv_nil, told_pick]
      have s57b := Same.trans s16 s17
      have T17 := T15.same s57b
      have hD17 := s57b _ _ hD15
      have hp17 := rows_same s57b hp15
      have hL17 := s57b _ _ hL15
      have hob17 := s57b _ _ hob15
      have hP17 := s57b _ _ hP15
      have hP217 := s57b _ _ hP215
      clear hDl4 h17 T15 hD15 hp15 hL15 hob15 hP15 hP215
      walk_at "s"
      rw [Bool.not_not]
      refine ifB (fun c2 => ?_) (fun c2 => ?_)
      · walk_at "s"
        refine ⟨x, dx15, _, rfl, hob17, prices_no d (by decide), ?_⟩
        walk_at "s"
        intro q1 H18 ts1 nq s18 h18 p18
        walk_at "s"
        refine ⟨q1, D, rfl, .inr ⟨ts1, us, rs', h18, SqL.of (s18 _ _ hD17), p18, rows_same s18 hp17, tk2, by omega⟩, fun H19 s19 => ?_⟩
        exact q _ (Same.trans s18 s19 _ _ hP17) (Same.trans s18 s19 _ _ hP217)
      have gR : GoodRow (Str.ofString "yyyy", Str.ofString "xxxx", (8 : Int)) := ⟨by decide +kernel, by decide +kernel, by decide +kernel, by decide +kernel⟩
      have nR : (Str.ofString "yyyy", Str.ofString "xxxx") ∉ rs'.map fun r => (r.1, r.2.1) := fun hm => by
        rw [told_iff.mpr hm] at c2; cases c2
      have gS := good_snoc (r := (Str.ofString "yyyy", Str.ofString "xxxx", (8 : Int))) tk2 gR nR
      have pg := put_good (r := (Str.ofString "yyyy", Str.ofString "xxxx", (8 : Int))) gR nR (by omega : rs'.length < 160)
      have nLd : Lz ≠ d := ne_of hL17 T17.dc (by intro z; cases z)
      walk_at "s"
      refine ⟨x, dx15, _, rfl, hob17, prices_no d (by decide), ?_⟩
      walk_at "s"
      refine ⟨x, d, _, _, _, rs', rfl, isP_ask gR.p1, isP_ask gR.p2, .inr (.inr (.inl ⟨_, rfl⟩)), hP17, T17, by omega, fun _ H18 sb18 T18 => ?_, fun e => absurd pg e⟩
      have T18 : TarAt a.Tariff H18 x d (rs' ++ [(Str.ofString "yyyy", Str.ofString "xxxx", (8 : Int))]) := T18
      have hL18 := sb18 _ _ nLd hL17
      have hP18 := sb18 _ _ (ne_of hP17 T17.dc (by intro z; cases z)) hP17
      have hP218 := sb18 _ _ (ne_of hP217 T17.dc (by intro z; cases z)) hP217
      have hL18q : SqL K H18 Lz (zs.map V.str) := SqL.of hL18
      have ok9 : ∀ z ∈ zs ++ [Str.ofString "yyyy xxxx 8"], okS 90000 z := fun z hz => by
        rcases List.mem_append.mp hz with h1 | h1
        · exact (okz z h1).mono (by decide)
        · rw [List.mem_singleton.mp h1]; exact ⟨by decide +kernel, by decide +kernel⟩
      have el : (rs' ++ [(Str.ofString "yyyy", Str.ofString "xxxx", (8 : Int))]).map lineOf = zs ++ [Str.ofString "yyyy xxxx 8"] := by
        rw [List.map_append, ← ezl]
        exact congrArg (zs ++ [·]) (by decide +kernel : lineOf (Str.ofString "yyyy", Str.ofString "xxxx", (8 : Int)) = Str.ofString "yyyy xxxx 8")
      have le : (rs' ++ [(Str.ofString "yyyy", Str.ofString "xxxx", (8 : Int))]).length ≤ 400 := by rw [List.length_append]; show _ + 1 ≤ _; omega
      clear T17 hL17 hob17 hP17 hP217 hD17 hp17 sb18 pg
      walk_at "s"
      refine ⟨le, fun L H19 nL s19 h19 => ?_⟩
      have hL19 := s19 _ _ hL18
      rw [el] at h19
      walk_at "s"
      refine ⟨by decide, fun B1 H20 nB s20 hB1 => ?_⟩
      refine ⟨Lz, B1, _, _, rfl, rfl, s20 _ _ hL19, hB1, by rw [List.length_map]; show _ + 1 ≤ _; omega, fun B2 H21 nB2 s21 hB2 => ?_⟩
      have hB2 : H21 B2 = some (.lst ((zs ++ [Str.ofString "yyyy xxxx 8"]).map V.str)) := by rw [hB2, List.map_append]; rfl
      walk_at "s"
      refine ⟨L, B2, rfl, .inl ⟨_, s21 _ _ (s20 _ _ h19), SqL.of hB2, by rw [List.length_append]; show _ + 1 ≤ _; omega, ok9⟩, fun H22 s22 => ?_⟩
      have s822 := Same.trans s19 (Same.trans s20 (Same.trans s21 s22))
      have T22 := T18.same s822
      obtain ⟨dx22, hob22⟩ := T22.ob
      walk_at "s"
      refine ⟨x, dx22, _, rfl, hob22, prices_no d (by decide), ?_⟩
      walk_at "s"
      refine ⟨x, d, _, _, _, rfl, T22, fun H23 s23 => ?_⟩
      rw [look_row gS (List.mem_append_right rs' (List.mem_singleton_self (Str.ofString "yyyy", Str.ofString "xxxx", (8 : Int))))]
      walk_at "s"
      --@f
      exact q _ (Same.trans s822 s23 _ _ hP18) (Same.trans s822 s23 _ _ hP218)
    · --@bad
      rw [wd1 rs' e, dueT_said e0, errOf_kind e0]
      refine ⟨true, ke5 T _ (takeRows_le4 _ _), fun _ ae hae => ?_, fun z => nomatch z⟩
      walk_at "s"
      refine ⟨_, rfl, rfl, takeRows_le4 _ _, fun H9 s9 => ?_⟩
      have s79 := Same.trans s8 s9
      walk_at "s"
      rw [decide_eq_true rfl]
      walk_at "s"
      refine ⟨_, _, .lst (SqL.of (s79 _ _ hH7)) (dpAll_flat fls), .lst (SqL.of (s79 _ _ hL7)) (dpAll_flat fls), shs, shs, ?_⟩
      rw [eqv_self shs]
      exact q _ (Same.trans s07 s79 _ _ hP) (Same.trans s07 s79 _ _ hP2)
end
end Fb

namespace Fb
open PySem PySem.Spec PyProof.Rows L2
theorem all_mk {w : World} {K : PySem.W.Frag} {h : Heap} {mg : Str → Option Value} {fa cFareError cBadPlace cBadPrice cTwiceTold cTooMany cBadLine cTariff f_is_place f_is_price f_Tariff_put f_Tariff_init f_Tariff_price f_Tariff_told f_line_of f_lines_of f_are_figures f_row_of f_tariff_of f__law_cell_at f__law_names f__law_rows f__law_turned f__law_lines f__law_read f__law_due f__law_said f__law_same f__law_grown f_law c_is_place P_is_place c_are_figures P_are_figures : Addr} {l : PySem.W.OpenLaw} (X : K.In h) (G : h.Ns mainGlobals mg) (hfa : mg "law" = some (.ref fa)) (tabs : ∀ g ∈ (["is_place", "are_figures"] : List Str), TabN mg h g)
    (hFareError : EA K "FareError" cFareError) (hBadPlace : EA K "BadPlace" cBadPlace) (hBadPrice : EA K "BadPrice" cBadPrice) (hTwiceTold : EA K "TwiceTold" cTwiceTold)
    (hTooMany : EA K "TooMany" cTooMany) (hBadLine : EA K "BadLine" cBadLine) (sBadPlace : PySem.W.subIn K (.ref cBadPlace) (.ref cFareError) = some true) (sBadPrice : PySem.W.subIn K (.ref cBadPrice) (.ref cFareError) = some true)
    (sTwiceTold : PySem.W.subIn K (.ref cTwiceTold) (.ref cFareError) = some true) (sTooMany : PySem.W.subIn K (.ref cTooMany) (.ref cFareError) = some true) (sBadLine : PySem.W.subIn K (.ref cBadLine) (.ref cFareError) = some true) (sBadPlace_BadPrice : PySem.W.subIn K (.ref cBadPlace) (.ref cBadPrice) = some false)
    (nBadPlace_BadPrice : (Value.ref cBadPlace == Value.ref cBadPrice) = false) (sBadPlace_TwiceTold : PySem.W.subIn K (.ref cBadPlace) (.ref cTwiceTold) = some false) (nBadPlace_TwiceTold : (Value.ref cBadPlace == Value.ref cTwiceTold) = false) (sBadPlace_TooMany : PySem.W.subIn K (.ref cBadPlace) (.ref cTooMany) = some false)
    (nBadPlace_TooMany : (Value.ref cBadPlace == Value.ref cTooMany) = false) (sBadPlace_BadLine : PySem.W.subIn K (.ref cBadPlace) (.ref cBadLine) = some false) (nBadPlace_BadLine : (Value.ref cBadPlace == Value.ref cBadLine) = false) (sBadPrice_BadPlace : PySem.W.subIn K (.ref cBadPrice) (.ref cBadPlace) = some false)
    (nBadPrice_BadPlace : (Value.ref cBadPrice == Value.ref cBadPlace) = false) (sBadPrice_TwiceTold : PySem.W.subIn K (.ref cBadPrice) (.ref cTwiceTold) = some false) (nBadPrice_TwiceTold : (Value.ref cBadPrice == Value.ref cTwiceTold) = false) (sBadPrice_TooMany : PySem.W.subIn K (.ref cBadPrice) (.ref cTooMany) = some false)
    (nBadPrice_TooMany : (Value.ref cBadPrice == Value.ref cTooMany) = false) (sBadPrice_BadLine : PySem.W.subIn K (.ref cBadPrice) (.ref cBadLine) = some false) (nBadPrice_BadLine : (Value.ref cBadPrice == Value.ref cBadLine) = false) (sTwiceTold_BadPlace : PySem.W.subIn K (.ref cTwiceTold) (.ref cBadPlace) = some false)
    (nTwiceTold_BadPlace : (Value.ref cTwiceTold == Value.ref cBadPlace) = false) (sTwiceTold_BadPrice : PySem.W.subIn K (.ref cTwiceTold) (.ref cBadPrice) = some false) (nTwiceTold_BadPrice : (Value.ref cTwiceTold == Value.ref cBadPrice) = false) (sTwiceTold_TooMany : PySem.W.subIn K (.ref cTwiceTold) (.ref cTooMany) = some false)
    (nTwiceTold_TooMany : (Value.ref cTwiceTold == Value.ref cTooMany) = false) (sTwiceTold_BadLine : PySem.W.subIn K (.ref cTwiceTold) (.ref cBadLine) = some false) (nTwiceTold_BadLine : (Value.ref cTwiceTold == Value.ref cBadLine) = false) (sTooMany_BadPlace : PySem.W.subIn K (.ref cTooMany) (.ref cBadPlace) = some false)
    (nTooMany_BadPlace : (Value.ref cTooMany == Value.ref cBadPlace) = false) (sTooMany_BadPrice : PySem.W.subIn K (.ref cTooMany) (.ref cBadPrice) = some false) (nTooMany_BadPrice : (Value.ref cTooMany == Value.ref cBadPrice) = false) (sTooMany_TwiceTold : PySem.W.subIn K (.ref cTooMany) (.ref cTwiceTold) = some false)
    (nTooMany_TwiceTold : (Value.ref cTooMany == Value.ref cTwiceTold) = false) (sTooMany_BadLine : PySem.W.subIn K (.ref cTooMany) (.ref cBadLine) = some false) (nTooMany_BadLine : (Value.ref cTooMany == Value.ref cBadLine) = false) (sBadLine_BadPlace : PySem.W.subIn K (.ref cBadLine) (.ref cBadPlace) = some false)
    (nBadLine_BadPlace : (Value.ref cBadLine == Value.ref cBadPlace) = false) (sBadLine_BadPrice : PySem.W.subIn K (.ref cBadLine) (.ref cBadPrice) = some false) (nBadLine_BadPrice : (Value.ref cBadLine == Value.ref cBadPrice) = false) (sBadLine_TwiceTold : PySem.W.subIn K (.ref cBadLine) (.ref cTwiceTold) = some false)
    (nBadLine_TwiceTold : (Value.ref cBadLine == Value.ref cTwiceTold) = false) (sBadLine_TooMany : PySem.W.subIn K (.ref cBadLine) (.ref cTooMany) = some false) (nBadLine_TooMany : (Value.ref cBadLine == Value.ref cTooMany) = false) (hTariff : CA K "Tariff" cTariff)
    (naP : PySem.W.findIn K (.ref cTariff) "_prices" = some none) (gLONGEST_PLACE : ∃ t, PySem.W.nsIn K mainGlobals "LONGEST_PLACE" = some (some (.int 12 t))) (gHIGHEST_PRICE : ∃ t, PySem.W.nsIn K mainGlobals "HIGHEST_PRICE" = some (some (.int 1000000000000 t))) (gMOST_ROWS : ∃ t, PySem.W.nsIn K mainGlobals "MOST_ROWS" = some (some (.int 160 t)))
    (gMOST_FIGURES : ∃ t, PySem.W.nsIn K mainGlobals "MOST_FIGURES" = some (some (.int 13 t))) (n_len : PySem.W.nsIn K mainGlobals "len" = some none) (n_int : PySem.W.nsIn K mainGlobals "int" = some none) (n_str : PySem.W.nsIn K mainGlobals "str" = some none)
    (n_list : PySem.W.nsIn K mainGlobals "list" = some none) (n_tuple : PySem.W.nsIn K mainGlobals "tuple" = some none) (n_dict : PySem.W.nsIn K mainGlobals "dict" = some none) (n_isinstance : PySem.W.nsIn K mainGlobals "isinstance" = some none)
    (n_range : PySem.W.nsIn K mainGlobals "range" = some none) (n_enumerate : PySem.W.nsIn K mainGlobals "enumerate" = some none) (n_all : PySem.W.nsIn K mainGlobals "all" = some none) (n_any : PySem.W.nsIn K mainGlobals "any" = some none)
    (n_sum : PySem.W.nsIn K mainGlobals "sum" = some none) (n_min : PySem.W.nsIn K mainGlobals "min" = some none) (n_max : PySem.W.nsIn K mainGlobals "max" = some none) (n_abs : PySem.W.nsIn K mainGlobals "abs" = some none)
    (n_sorted : PySem.W.nsIn K mainGlobals "sorted" = some none) (n_zip : PySem.W.nsIn K mainGlobals "zip" = some none) (n_reversed : PySem.W.nsIn K mainGlobals "reversed" = some none) (n_bool : PySem.W.nsIn K mainGlobals "bool" = some none)
    (n_ValueError : PySem.W.nsIn K mainGlobals "ValueError" = some none) (n_set : PySem.W.nsIn K mainGlobals "set" = some none) (h_is_place : FAC K "is_place" s_is_place f_is_place c_is_place P_is_place) (h_is_price : FA K "is_price" s_is_price f_is_price)
    (h_Tariff_put : FM K cTariff "put" "Tariff.put" s_Tariff_put f_Tariff_put) (h_Tariff_init : FM K cTariff "__init__" "Tariff.__init__" s_Tariff_init f_Tariff_init) (h_Tariff_price : FM K cTariff "price" "Tariff.price" s_Tariff_price f_Tariff_price) (h_Tariff_told : FM K cTariff "told" "Tariff.told" s_Tariff_told f_Tariff_told)
    (h_line_of : FA K "line_of" s_line_of f_line_of) (h_lines_of : FA K "lines_of" s_lines_of f_lines_of) (h_are_figures : FAC K "are_figures" s_are_figures f_are_figures c_are_figures P_are_figures) (h_row_of : FA K "row_of" s_row_of f_row_of)
    (h_tariff_of : FA K "tariff_of" s_tariff_of f_tariff_of) (h__law_cell_at : FA K "_law_cell_at" s__law_cell_at f__law_cell_at) (h__law_names : FA K "_law_names" s__law_names f__law_names) (h__law_rows : FA K "_law_rows" s__law_rows f__law_rows)
    (h__law_turned : FA K "_law_turned" s__law_turned f__law_turned) (h__law_lines : FA K "_law_lines" s__law_lines f__law_lines) (h__law_read : FA K "_law_read" s__law_read f__law_read) (h__law_due : FA K "_law_due" s__law_due f__law_due)
    (h__law_said : FA K "_law_said" s__law_said f__law_said) (h__law_same : FA K "_law_same" s__law_same f__law_same) (h__law_grown : FA K "_law_grown" s__law_grown f__law_grown) (h_law : FA K "law" s_law f_law)
    : LawT l w K 8 63 "_law_script" mg fa h := by
  have e := hfa.symm.trans (PySem.W.mg_of X G h_law.a)
  cases e
  obtain ⟨a, ea⟩ : ∃ a : Ads, a = ⟨cFareError, cBadPlace, cBadPrice, cTwiceTold, cTooMany, 0, 0, 0, 0, cBadLine, cTariff⟩ := ⟨_, rfl⟩
  have T : Txt K mg a := by
    rw [ea]
    exact { n_len := PySem.W.mg_none_of X G n_len, n_int := PySem.W.mg_none_of X G n_int, n_str := PySem.W.mg_none_of X G n_str, n_list := PySem.W.mg_none_of X G n_list, n_tuple := PySem.W.mg_none_of X G n_tuple, n_dict := PySem.W.mg_none_of X G n_dict, n_isinstance := PySem.W.mg_none_of X G n_isinstance, n_range := PySem.W.mg_none_of X G n_range, n_enumerate := PySem.W.mg_none_of X G n_enumerate, n_all := PySem.W.mg_none_of X G n_all, n_any := PySem.W.mg_none_of X G n_any, n_sum := PySem.W.mg_none_of X G n_sum, n_min := PySem.W.mg_none_of X G n_min, n_max := PySem.W.mg_none_of X G n_max, n_abs := PySem.W.mg_none_of X G n_abs, n_sorted := PySem.W.mg_none_of X G n_sorted, n_zip := PySem.W.mg_none_of X G n_zip, n_reversed := PySem.W.mg_none_of X G n_reversed, n_bool := PySem.W.mg_none_of X G n_bool, n_ValueError := PySem.W.mg_none_of X G n_ValueError, n_set := PySem.W.mg_none_of X G n_set, c_LONGEST_PLACE := FA.gint X G gLONGEST_PLACE, c_HIGHEST_PRICE := FA.gint X G gHIGHEST_PRICE, c_MOST_ROWS := FA.gint X G gMOST_ROWS, c_MOST_FIGURES := FA.gint X G gMOST_FIGURES, x_FareError := hFareError.exk X G, x_BadPlace := hBadPlace.exk X G, x_BadPrice := hBadPrice.exk X G, x_TwiceTold := hTwiceTold.exk X G, x_TooMany := hTooMany.exk X G, x_BadLine := hBadLine.exk X G, e_BadPlace := hFareError.exm sBadPlace, i_BadPlace := hBadPlace.exc, v_BadPlace := hBadPlace.kitV, k_BadPlace_BadPlace := kit_self, k_BadPlace_BadPrice := hBadPrice.kit sBadPlace_BadPrice nBadPlace_BadPrice, k_BadPlace_TwiceTold := hTwiceTold.kit sBadPlace_TwiceTold nBadPlace_TwiceTold, k_BadPlace_TooMany := hTooMany.kit sBadPlace_TooMany nBadPlace_TooMany, k_BadPlace_BadLine := hBadLine.kit sBadPlace_BadLine nBadPlace_BadLine, e_BadPrice := hFareError.exm sBadPrice, i_BadPrice := hBadPrice.exc, v_BadPrice := hBadPrice.kitV, k_BadPrice_BadPlace := hBadPlace.kit sBadPrice_BadPlace nBadPrice_BadPlace, k_BadPrice_BadPrice := kit_self, k_BadPrice_TwiceTold := hTwiceTold.kit sBadPrice_TwiceTold nBadPrice_TwiceTold, k_BadPrice_TooMany := hTooMany.kit sBadPrice_TooMany nBadPrice_TooMany, k_BadPrice_BadLine := hBadLine.kit sBadPrice_BadLine nBadPrice_BadLine, e_TwiceTold := hFareError.exm sTwiceTold, i_TwiceTold := hTwiceTold.exc, v_TwiceTold := hTwiceTold.kitV, k_TwiceTold_BadPlace := hBadPlace.kit sTwiceTold_BadPlace nTwiceTold_BadPlace, k_TwiceTold_BadPrice := hBadPrice.kit sTwiceTold_BadPrice nTwiceTold_BadPrice, k_TwiceTold_TwiceTold := kit_self, k_TwiceTold_TooMany := hTooMany.kit sTwiceTold_TooMany nTwiceTold_TooMany, k_TwiceTold_BadLine := hBadLine.kit sTwiceTold_BadLine nTwiceTold_BadLine, e_TooMany := hFareError.exm sTooMany, i_TooMany := hTooMany.exc, v_TooMany := hTooMany.kitV, k_TooMany_BadPlace := hBadPlace.kit sTooMany_BadPlace nTooMany_BadPlace, k_TooMany_BadPrice := hBadPrice.kit sTooMany_BadPrice nTooMany_BadPrice, k_TooMany_TwiceTold := hTwiceTold.kit sTooMany_TwiceTold nTooMany_TwiceTold, k_TooMany_TooMany := kit_self, k_TooMany_BadLine := hBadLine.kit sTooMany_BadLine nTooMany_BadLine, e_BadLine := hFareError.exm sBadLine, i_BadLine := hBadLine.exc, v_BadLine := hBadLine.kitV, k_BadLine_BadPlace := hBadPlace.kit sBadLine_BadPlace nBadLine_BadPlace, k_BadLine_BadPrice := hBadPrice.kit sBadLine_BadPrice nBadLine_BadPrice, k_BadLine_TwiceTold := hTwiceTold.kit sBadLine_TwiceTold nBadLine_TwiceTold, k_BadLine_TooMany := hTooMany.kit sBadLine_TooMany nBadLine_TooMany, k_BadLine_BadLine := kit_self, cl_Tariff := hTariff.cls, na_prices := naP }
  have eT : a.Tariff = cTariff := by rw [ea]
  obtain ⟨hT_is_place, hC_is_place⟩ := h_is_place.tab X G (tabs _ (by simp))
  obtain ⟨hT_are_figures, hC_are_figures⟩ := h_are_figures.tab X G (tabs _ (by simp))
  obtain ⟨oc, od, kV, dc, pm, an, cd, ct, osl, lL, cL⟩ := h_law.l
  refine ⟨PySem.W.fnOf "law" "law" (defArgs s_law) (defBody s_law) (defScope s_law) .none kV dc pm an cd ct, [(c_is_place, P_is_place), (c_are_figures, P_are_figures)], (spLaw K P_is_place P_are_figures), fun p hp => ?_, fun p hp => ?_, fun p hp => ?_, fun s u => .of_eq rfl, fun H b ns _ hbits hP hS => ?_, fun base hb hn hB => ?_⟩
  · simp only [List.mem_cons, List.not_mem_nil, or_false] at hp
    rcases hp with hp | hp <;> subst hp
    · exact hT_is_place
    · exact hT_are_figures
  · simp only [List.mem_cons, List.not_mem_nil, or_false] at hp
    rcases hp with hp | hp <;> subst hp
    · exact h_is_place.n
    · exact h_are_figures.n
  · simp only [List.mem_cons, List.not_mem_nil, or_false] at hp
    rcases hp with hp | hp <;> subst hp
    · exact hC_is_place
    · exact hC_are_figures
  · refine ⟨b, ns, rfl, hS, hP (c_is_place, P_is_place) (by simp), hP (c_are_figures, P_are_figures) (by simp), fun H' q0 q1 => ⟨fun p hp => ?_, rfl⟩⟩
    simp only [List.mem_cons, List.not_mem_nil, or_false] at hp
    rcases hp with hp | hp <;> subst hp <;> assumption
  · have TB_is_place : GxR.TabB base mg c_is_place P_is_place := hB (c_is_place, P_is_place) (by simp)
    have TB_are_figures : GxR.TabB base mg c_are_figures P_are_figures := hB (c_are_figures, P_are_figures) (by simp)
    have D_is_place : Dn l.prog w K mg base 2 "is_place" ["thing"] (spIsPlace P_is_place) := h_is_place.dn X G (fun _ F => ok_is_place F T TB_is_place) (fun _ _ _ _ _ _ us hl => match us, hl with | [_], _ => rfl)
    have D_is_price : Dn l.prog w K mg base 1 "is_price" ["thing"] spIsPrice := h_is_price.dn X G (fun _ F => ok_is_price F T ) (fun _ _ _ _ _ _ us hl => match us, hl with | [_], _ => rfl)
    have D_Tariff_put : Dm l.prog w K mg base 3 a.Tariff "put" ["self", "here", "there", "price"] (spPut a P_is_place) := by
      rw [eT]
      exact h_Tariff_put.dm (fun _ F => by have z := ok_put (Pg := l.prog) (w := w) (base := base) F T D_is_place D_is_price; exact z) (fun _ _ _ _ _ _ us hl => match us, hl with | [_, _, _, _], _ => rfl)
    have D_Tariff_init : Dk l.prog w K mg base 4 "Tariff" a.Tariff ["self", "rows"] (spInit K a P_is_place) := by
      have z := h_Tariff_init.dk (Pg := l.prog) (w := w) (base := base) hTariff X G (fun _ F => ok_init F T D_Tariff_put) (fun _ _ _ _ _ _ us hl => match us, hl with | [_, _], _ => rfl)
      rw [eT]; exact z
    have D_Tariff_price : Dm l.prog w K mg base 1 a.Tariff "price" ["self", "here", "there"] (spPrice a) := by
      rw [eT]
      exact h_Tariff_price.dm (fun _ F => by have z := ok_price (Pg := l.prog) (w := w) (base := base) F T ; exact z) (fun _ _ _ _ _ _ us hl => match us, hl with | [_, _, _], _ => rfl)
    have D_Tariff_told : Dm l.prog w K mg base 1 a.Tariff "told" ["self"] (spTold a) := by
      rw [eT]
      exact h_Tariff_told.dm (fun _ F => by have z := ok_told (Pg := l.prog) (w := w) (base := base) F T ; exact z) (fun _ _ _ _ _ _ us hl => match us, hl with | [_], _ => rfl)
    have D_line_of : Dn l.prog w K mg base 1 "line_of" ["here", "there", "price"] spLineOf := h_line_of.dn X G (fun _ F => ok_line_of F T ) (fun _ _ _ _ _ _ us hl => match us, hl with | [_, _, _], _ => rfl)
    have D_lines_of : Dn l.prog w K mg base 2 "lines_of" ["tariff"] (spLinesOf K a) := h_lines_of.dn X G (fun _ F => ok_lines_of F T D_Tariff_told D_line_of) (fun _ _ _ _ _ _ us hl => match us, hl with | [_], _ => rfl)
    have D_are_figures : Dn l.prog w K mg base 2 "are_figures" ["word"] (spFig P_are_figures) := h_are_figures.dn X G (fun _ F => ok_are_figures F T TB_are_figures) (fun _ _ _ _ _ _ us hl => match us, hl with | [_], _ => rfl)
    have D_row_of : Dn l.prog w K mg base 3 "row_of" ["line"] (spRowOf a P_are_figures) := h_row_of.dn X G (fun _ F => ok_row_of F T D_are_figures) (fun _ _ _ _ _ _ us hl => match us, hl with | [_], _ => rfl)
    have D_tariff_of : Dn l.prog w K mg base 6 "tariff_of" ["lines"] (spTof2 K a P_is_place P_are_figures) := h_tariff_of.dn X G (fun _ F => ok_tof2 F T D_row_of D_Tariff_init) (fun _ _ _ _ _ _ us hl => match us, hl with | [_], _ => rfl)
    have D__law_cell_at : Dn l.prog w K mg base 1 "_law_cell_at" ["_law_script", "_law_k"] (spCell K) := h__law_cell_at.dn X G (fun _ F => ok_cell F T ) (fun _ _ _ _ _ _ us hl => match us, hl with | [_, _], _ => rfl)
    have D__law_names : Dn l.prog w K mg base 1 "_law_names" ["_law_cell", "_law_many"] spNames := h__law_names.dn X G (fun _ F => ok_names F T ) (fun _ _ _ _ _ _ us hl => match us, hl with | [_, _], _ => rfl)
    have D__law_rows : Dn l.prog w K mg base 2 "_law_rows" ["_law_script", "_law_names_here"] (spRows12 K) := h__law_rows.dn X G (fun _ F => ok_rows12 F T D__law_cell_at) (fun _ _ _ _ _ _ us hl => match us, hl with | [_, _], _ => rfl)
    have D__law_turned : Dn l.prog w K mg base 1 "_law_turned" ["_law_line", "_law_cell", "_law_ahead"] spTurned := h__law_turned.dn X G (fun _ F => ok_turned F T ) (fun _ _ _ _ _ _ us hl => match us, hl with | [_, _, _], _ => rfl)
    have D__law_lines : Dn l.prog w K mg base 2 "_law_lines" ["_law_script", "_law_rows_here"] (spLines12 K) := h__law_lines.dn X G (fun _ F => ok_lines12 F T D__law_cell_at D__law_turned) (fun _ _ _ _ _ _ us hl => match us, hl with | [_, _], _ => rfl)
    have D__law_read : Dn l.prog w K mg base 1 "_law_read" ["_law_line"] spRead := h__law_read.dn X G (fun _ F => ok_read F T ) (fun _ _ _ _ _ _ us hl => match us, hl with | [_], _ => rfl)
    have D__law_due : Dn l.prog w K mg base 1 "_law_due" ["_law_rows_here"] (spDue12 K) := h__law_due.dn X G (fun _ F => ok_due12 F T ) (fun _ _ _ _ _ _ us hl => match us, hl with | [_], _ => rfl)
    have D__law_saidE : DnE l.prog w K mg base 1 "_law_said" ["_law_error"] (spSaid12 a) := h__law_said.dne X G (fun _ F => ok_said12 F T ) (fun _ _ _ _ _ _ us hl => match us, hl with | [_], _ => rfl)
    have D__law_same : Dn l.prog w K mg base 1 "_law_same" ["_law_found", "_law_due_here"] (spSame K) := h__law_same.dn X G (fun _ F => ok_same F T ) (fun _ _ _ _ _ _ us hl => match us, hl with | [_, _], _ => rfl)
    have D__law_grown : Dn l.prog w K mg base 6 "_law_grown" ["_law_rows_here", "_law_cut"] (spGrown K a P_is_place) := h__law_grown.dn X G (fun _ F => ok_grown F T D_lines_of D__law_same D_Tariff_put D_Tariff_init) (fun _ _ _ _ _ _ us hl => match us, hl with | [_, _], _ => rfl)
    exact ok_law (fun_mk (st := s_law) lL cL h_law.k) T D_lines_of D_tariff_of D__law_cell_at D__law_names D__law_rows D__law_lines D__law_read D__law_due D__law_saidE D__law_same D__law_grown D_Tariff_put D_Tariff_price D_Tariff_told
end Fb
open PySem PySem.W PyProof.Rows
set_option maxRecDepth 100000 in
set_option maxHeartbeats 0 in
theorem PySem.Challenge.cw_farebreak_k12_lines_holds : PySem.Challenge.rw_farebreak_k12_lines.Holds := by
  w_on; o_law; k_head; (case hw => w_witness2)
  k_fill
  refine Fb.walk_tab (l := PySem.Challenge.rw_farebreak_k12_lines) (n := 63) (k := 8) (x := "_law_script") ["is_place", "are_figures"] rfl (by decide) rfl ⟨rfl, by decide, by decide⟩ (fun g hg => ?R) (fun w h Y => PySem.W.kIn_of Y) ?F
  case R =>
    simp only [List.mem_cons, List.not_mem_nil, or_false] at hg
    rcases hg with hg | hg <;> subst hg <;> first | decide +kernel | rfl
  case F =>
    intro w mg fa h Y KX G hmg tabs
    refine' Fb.all_mk (l := PySem.Challenge.rw_farebreak_k12_lines) KX G hmg tabs ?ahFareError ?ahBadPlace ?ahBadPrice ?ahTwiceTold ?ahTooMany ?ahBadLine ?asBadPlace ?asBadPrice ?asTwiceTold ?asTooMany ?asBadLine ?asBadPlace_BadPrice ?anBadPlace_BadPrice ?asBadPlace_TwiceTold ?anBadPlace_TwiceTold ?asBadPlace_TooMany ?anBadPlace_TooMany ?asBadPlace_BadLine ?anBadPlace_BadLine ?asBadPrice_BadPlace ?anBadPrice_BadPlace ?asBadPrice_TwiceTold ?anBadPrice_TwiceTold ?asBadPrice_TooMany ?anBadPrice_TooMany ?asBadPrice_BadLine ?anBadPrice_BadLine ?asTwiceTold_BadPlace ?anTwiceTold_BadPlace ?asTwiceTold_BadPrice ?anTwiceTold_BadPrice ?asTwiceTold_TooMany ?anTwiceTold_TooMany ?asTwiceTold_BadLine ?anTwiceTold_BadLine ?asTooMany_BadPlace ?anTooMany_BadPlace ?asTooMany_BadPrice ?anTooMany_BadPrice ?asTooMany_TwiceTold ?anTooMany_TwiceTold ?asTooMany_BadLine ?anTooMany_BadLine ?asBadLine_BadPlace ?anBadLine_BadPlace ?asBadLine_BadPrice ?anBadLine_BadPrice ?asBadLine_TwiceTold ?anBadLine_TwiceTold ?asBadLine_TooMany ?anBadLine_TooMany ?ahTariff ?anaP ?agLONGEST_PLACE ?agHIGHEST_PRICE ?agMOST_ROWS ?agMOST_FIGURES ?an_len ?an_int ?an_str ?an_list ?an_tuple ?an_dict ?an_isinstance ?an_range ?an_enumerate ?an_all ?an_any ?an_sum ?an_min ?an_max ?an_abs ?an_sorted ?an_zip ?an_reversed ?an_bool ?an_ValueError ?an_set ?ah_is_place ?ah_is_price ?ah_Tariff_put ?ah_Tariff_init ?ah_Tariff_price ?ah_Tariff_told ?ah_line_of ?ah_lines_of ?ah_are_figures ?ah_row_of ?ah_tariff_of ?ah__law_cell_at ?ah__law_names ?ah__law_rows ?ah__law_turned ?ah__law_lines ?ah__law_read ?ah__law_due ?ah__law_said ?ah__law_same ?ah__law_grown ?ah_law
    (case ahFareError => exact Fb.EA.mk (by k_is) (by k_is) (by k_exc) (by k_is) (by k_is) (by k_is) (by k_is) (by k_is) (by k_is) (by k_is) (by k_is) (by k_is) (by k_is) (by k_is))
    (case ahBadPlace => exact Fb.EA.mk (by k_is) (by k_is) (by k_exc) (by k_is) (by k_is) (by k_is) (by k_is) (by k_is) (by k_is) (by k_is) (by k_is) (by k_is) (by k_is) (by k_is))
    (case ahBadPrice => exact Fb.EA.mk (by k_is) (by k_is) (by k_exc) (by k_is) (by k_is) (by k_is) (by k_is) (by k_is) (by k_is) (by k_is) (by k_is) (by k_is) (by k_is) (by k_is))
    (case ahTwiceTold => exact Fb.EA.mk (by k_is) (by k_is) (by k_exc) (by k_is) (by k_is) (by k_is) (by k_is) (by k_is) (by k_is) (by k_is) (by k_is) (by k_is) (by k_is) (by k_is))
    (case ahTooMany => exact Fb.EA.mk (by k_is) (by k_is) (by k_exc) (by k_is) (by k_is) (by k_is) (by k_is) (by k_is) (by k_is) (by k_is) (by k_is) (by k_is) (by k_is) (by k_is))
    (case ahBadLine => exact Fb.EA.mk (by k_is) (by k_is) (by k_exc) (by k_is) (by k_is) (by k_is) (by k_is) (by k_is) (by k_is) (by k_is) (by k_is) (by k_is) (by k_is) (by k_is))
    (case asBadPlace => k_is)
    (case asBadPrice => k_is)
    (case asTwiceTold => k_is)
    (case asTooMany => k_is)
    (case asBadLine => k_is)
    (case asBadPlace_BadPrice => k_is)
    (case anBadPlace_BadPrice => first | rfl | decide)
    (case asBadPlace_TwiceTold => k_is)
    (case anBadPlace_TwiceTold => first | rfl | decide)
    (case asBadPlace_TooMany => k_is)
    (case anBadPlace_TooMany => first | rfl | decide)
    (case asBadPlace_BadLine => k_is)
    (case anBadPlace_BadLine => first | rfl | decide)
    (case asBadPrice_BadPlace => k_is)
    (case anBadPrice_BadPlace => first | rfl | decide)
    (case asBadPrice_TwiceTold => k_is)
    (case anBadPrice_TwiceTold => first | rfl | decide)
    (case asBadPrice_TooMany => k_is)
    (case anBadPrice_TooMany => first | rfl | decide)
    (case asBadPrice_BadLine => k_is)
    (case anBadPrice_BadLine => first | rfl | decide)
    (case asTwiceTold_BadPlace => k_is)
    (case anTwiceTold_BadPlace => first | rfl | decide)
    (case asTwiceTold_BadPrice => k_is)
    (case anTwiceTold_BadPrice => first | rfl | decide)
    (case asTwiceTold_TooMany => k_is)
    (case anTwiceTold_TooMany => first | rfl | decide)
    (case asTwiceTold_BadLine => k_is)
    (case anTwiceTold_BadLine => first | rfl | decide)
    (case asTooMany_BadPlace => k_is)
    (case anTooMany_BadPlace => first | rfl | decide)
    (case asTooMany_BadPrice => k_is)
    (case anTooMany_BadPrice => first | rfl | decide)
    (case asTooMany_TwiceTold => k_is)
    (case anTooMany_TwiceTold => first | rfl | decide)
    (case asTooMany_BadLine => k_is)
    (case anTooMany_BadLine => first | rfl | decide)
    (case asBadLine_BadPlace => k_is)
    (case anBadLine_BadPlace => first | rfl | decide)
    (case asBadLine_BadPrice => k_is)
    (case anBadLine_BadPrice => first | rfl | decide)
    (case asBadLine_TwiceTold => k_is)
    (case anBadLine_TwiceTold => first | rfl | decide)
    (case asBadLine_TooMany => k_is)
    (case anBadLine_TooMany => first | rfl | decide)
    (case ahTariff => exact Fb.CA.mk (by k_is) (by k_is) (by k_is) (by k_is) (by k_is) (by k_is) (by k_is))
    (case anaP => k_is)
    (case agLONGEST_PLACE => exact Fb.gi_mk (by k_is))
    (case agHIGHEST_PRICE => exact Fb.gi_mk (by k_is))
    (case agMOST_ROWS => exact Fb.gi_mk (by k_is))
    (case agMOST_FIGURES => exact Fb.gi_mk (by k_is))
    (case an_len => k_is)
    (case an_int => k_is)
    (case an_str => k_is)
    (case an_list => k_is)
    (case an_tuple => k_is)
    (case an_dict => k_is)
    (case an_isinstance => k_is)
    (case an_range => k_is)
    (case an_enumerate => k_is)
    (case an_all => k_is)
    (case an_any => k_is)
    (case an_sum => k_is)
    (case an_min => k_is)
    (case an_max => k_is)
    (case an_abs => k_is)
    (case an_sorted => k_is)
    (case an_zip => k_is)
    (case an_reversed => k_is)
    (case an_bool => k_is)
    (case an_ValueError => k_is)
    (case an_set => k_is)
    (case ah_is_place => exact Fb.fac_mk (by k_is) (by k_is) (by k_is) (by k_is) (by k_is) (by rfl) (by first | rfl | decide +kernel))
    (case ah_is_price => exact Fb.fa_mk (by k_is) (by k_is) (by k_is) (by k_is))
    (case ah_Tariff_put => exact Fb.fm_mk (by k_is) (by k_is) (by k_is) (by k_is) (by k_is))
    (case ah_Tariff_init => exact Fb.fm_mk (by k_is) (by k_is) (by k_is) (by k_is) (by k_is))
    (case ah_Tariff_price => exact Fb.fm_mk (by k_is) (by k_is) (by k_is) (by k_is) (by k_is))
    (case ah_Tariff_told => exact Fb.fm_mk (by k_is) (by k_is) (by k_is) (by k_is) (by k_is))
    (case ah_line_of => exact Fb.fa_mk (by k_is) (by k_is) (by k_is) (by k_is))
    (case ah_lines_of => exact Fb.fa_mk (by k_is) (by k_is) (by k_is) (by k_is))
    (case ah_are_figures => exact Fb.fac_mk (by k_is) (by k_is) (by k_is) (by k_is) (by k_is) (by rfl) (by first | rfl | decide +kernel))
    (case ah_row_of => exact Fb.fa_mk (by k_is) (by k_is) (by k_is) (by k_is))
    (case ah_tariff_of => exact Fb.fa_mk (by k_is) (by k_is) (by k_is) (by k_is))
    (case ah__law_cell_at => exact Fb.fa_mk (by k_is) (by k_is) (by k_is) (by k_is))
    (case ah__law_names => exact Fb.fa_mk (by k_is) (by k_is) (by k_is) (by k_is))
    (case ah__law_rows => exact Fb.fa_mk (by k_is) (by k_is) (by k_is) (by k_is))
    (case ah__law_turned => exact Fb.fa_mk (by k_is) (by k_is) (by k_is) (by k_is))
    (case ah__law_lines => exact Fb.fa_mk (by k_is) (by k_is) (by k_is) (by k_is))
    (case ah__law_read => exact Fb.fa_mk (by k_is) (by k_is) (by k_is) (by k_is))
    (case ah__law_due => exact Fb.fa_mk (by k_is) (by k_is) (by k_is) (by k_is))
    (case ah__law_said => exact Fb.fa_mk (by k_is) (by k_is) (by k_is) (by k_is))
    (case ah__law_same => exact Fb.fa_mk (by k_is) (by k_is) (by k_is) (by k_is))
    (case ah__law_grown => exact Fb.fa_mk (by k_is) (by k_is) (by k_is) (by k_is))
    (case ah_law => exact Fb.fa_mk (by k_is) (by k_is) (by k_is) (by k_is))
#print axioms PySem.Challenge.cw_farebreak_k12_lines_holds
