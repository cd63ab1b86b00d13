import PyProof.Rows.All
import Wide.All
import OpenK.AllK
import Wide.FinOn
import PyProof.EqAt
import PyProof.EqKinds
import PyProof.TupleCall
import Open.SpecLaws
import KE.OsGo
import HandS.ForSpec
import HandS.CallLocal
import HandS.SetFor
import HandS.SortInts
import PySem.Challenge.RW_convoytimes_s01_answers
import HandS.Codes
import HandS.TupLe
import HandS.Strs
import PyProof.MinMaxWalk
import HandS.Comp
import HandS.TupAny
import KE.OsHead
namespace Ct
/-! ### The request: one call after another -/
theorem whole_id (c : List (List Int)) : PyKm561.whole c = c := by
  unfold PyKm561.whole
  split <;> rfl
theorem map_whole (cs : List (List (List Int))) : cs.map PyKm561.whole = cs := by
  rw [show PyKm561.whole = id from funext whole_id, List.map_id]
theorem ite_or {c : Prop} [Decidable c] {α : Type} {a b y : α} (h : (if c then a else b) = y) : (c ∧ a = y) ∨ (¬ c ∧ b = y) := by
  by_cases e : c
  · rw [if_pos e] at h
    exact .inl ⟨e, h⟩
  · rw [if_neg e] at h
    exact .inr ⟨e, h⟩
/-- how many numbers stand behind a call's number -/
def PC : List Int := [0, 2, 1, 2, 2, 0, 1, 1, 0, 0, 0, 1, 0, 1, 1, 0, 1, 1, 1, 1, 1, 0, 2, 1, 0]
theorem shape_some {p : Int} {x : Nat × Nat} (h : PyKm561.shape p = some x) : 0 ≤ p ∧ p < 25 ∧ x.2 = 0 ∧ PC[p.toNat]? = some (x.1 : Int) := by
  unfold PyKm561.shape at h
  iterate 25
    rcases ite_or h with ⟨rfl, h⟩ | ⟨_, h⟩
    · cases h
      exact ⟨by decide, by decide, rfl, rfl⟩
  cases h
/-- the first call and the rest -/
theorem calls_cons {f : Nat} {p : Int} {r : List Int} {raw : List (List (List Int))} (h : PyFlat.calls PyKm561.shape f (p :: r) = some raw) :
    ∃ (n : Nat) (raw' : List (List (List Int))) (f' : Nat), 0 ≤ p ∧ p < 25 ∧ PC[p.toNat]? = some (n : Int) ∧ n ≤ r.length ∧ raw = [p :: r.take n] :: raw' ∧ PyFlat.calls PyKm561.shape f' (r.drop n) = some raw' := by
  cases f with
  | zero => simp [PyFlat.calls] at h
  | succ f =>
    unfold PyFlat.calls at h
    split at h
    · cases h
    · rename_i c t hc
      split at h
      · cases h
      · rename_i cs hcs
        cases h
        unfold PyFlat.call at hc
        split at hc
        · cases hc
        · rename_i p2 r2 e2
          cases e2
          split at hc
          · cases hc
          rename_i n k hs
          obtain ⟨h0, h1, h2, h3⟩ := shape_some hs
          dsimp only at h2 h3
          subst h2
          split at hc
          · cases hc
          · rename_i hl
            have e : PyFlat.rows 0 (r.drop n) = some ([], r.drop n) := rfl
            rw [e] at hc
            cases hc
            exact ⟨n, cs, f, h0, h1, h3, by omega, rfl, hcs⟩
theorem calls_nil {f : Nat} {raw : List (List (List Int))} (h : PyFlat.calls PyKm561.shape f [] = some raw) : raw = [] := by
  cases f <;> (unfold PyFlat.calls at h; cases h; rfl)
theorem played_cons (s : Km561Neutral.S) (c : List (List Int)) (r : List (List (List Int))) :
    PyFlat.told (PyFlat.played Km561Neutral.step s (c :: r)) = (((Km561Neutral.step s c).2.length : Int) :: (Km561Neutral.step s c).2) ++ PyFlat.told (PyFlat.played Km561Neutral.step (Km561Neutral.step s c).1 r) := by
  show PyFlat.told ((Km561Neutral.step s c).2 :: PyFlat.played Km561Neutral.step (Km561Neutral.step s c).1 r) = _
  unfold PyFlat.told
  rw [List.flatMap_cons]
/-- what is asked, opened -/
theorem asked_iff {l : List Int} (h : PyKm561.answers_asked l = true) : ∃ raw, PyFlat.calls PyKm561.shape l.length l = some raw ∧ raw.length ≤ 50 ∧ (∀ c ∈ raw, Km561Neutral.asked1 c = true) ∧
    PyKm561.answers l = PyFlat.told (PyFlat.played Km561Neutral.step Km561Neutral.start raw) ∧ (PyKm561.answers l).length ≤ 10000000 := by
  unfold PyKm561.answers_asked at h
  split at h
  · cases h
  · rename_i raw hr
    rw [Bool.and_eq_true, Bool.and_eq_true, Bool.and_eq_true, Bool.and_eq_true] at h
    obtain ⟨⟨⟨⟨_, h1⟩, _⟩, h3⟩, h4⟩ := h
    have h4' : (PyKm561.answers l).length ≤ 10000000 := of_decide_eq_true h4
    rw [map_whole] at h3
    unfold Km561Neutral.asked at h3
    rw [Bool.and_eq_true, Bool.and_eq_true] at h3
    refine ⟨raw, hr, of_decide_eq_true h1, List.all_eq_true.mp h3.2.2, ?_, h4'⟩
    unfold PyKm561.answers PyKm561.calls
    rw [hr]
    show PyFlat.told (PyFlat.played Km561Neutral.step Km561Neutral.start (raw.map PyKm561.whole)) = _
    rw [map_whole]
end Ct
set_option Elab.async false
set_option maxRecDepth 100000
set_option maxHeartbeats 2000000
/-! Two rules that the layer lacks: a written dict whose keys are whole numbers, read at a key; a call of what an expression gives. -/
namespace Ct
open PySem PySem.Spec PyProof.Rows L2
/-- all keys of a written dict are whole numbers -/
def KeysInt : List DictEntry → Prop
  | [] => True
  | e :: r => (∃ i t, e.key = .int i t ∧ e.hash = hashInt i) ∧ KeysInt r
theorem KeysInt.all : ∀ {l : List DictEntry}, KeysInt l → ∀ e ∈ l, ∃ i t, e.key = .int i t ∧ e.hash = hashInt i
  | _ :: _, ⟨h, _⟩, _, .head _ => h
  | _ :: _, ⟨_, r⟩, _, .tail _ m => r.all _ m
theorem mapOf_I {prog : Program} {w : World} {h : Heap} {K : PySem.W.Frag} {a : Addr} {es : Array DictEntry} {n : Nat} (X : K.In h) (hl : K.lookup a = some ⟨.type "dict", none, .dict es n, #[]⟩) (hk : KeysInt es.toList) :
    h.MapOf (PySem.intKind prog w) a (fun k => findBy Value.isInt es k) :=
  ⟨_, es, n, X _ _ hl, ⟨rfl, rfl, rfl⟩, rfl, fun e he => by
    obtain ⟨x, t, e1, e2⟩ := hk.all e (Array.mem_toList_iff.mpr he)
    exact ⟨x, by rw [e1]; exact intKind_is prog w x t, e2⟩, fun _ => rfl⟩
/-- at d: a written dict, what stands at the key n is v -/
def KDctI (K : PySem.W.Frag) (a : Addr) (i : Int) (v : V) : Prop :=
  ∃ es n u, K.lookup a = some ⟨.type "dict", none, .dict es n, #[]⟩ ∧ KeysInt es.toList ∧ findBy Value.isInt es i = some u ∧ RelV v u
def rIxI (K : PySem.W.Frag) : R2 := fun x y H Q => ∃ p i v, x = .ref p ∧ y = .int i ∧ KDctI K p i v ∧ Q v H
section
variable {X : Cx}
theorem ix_kdictI : IxR X (rIxI X.K) := by
  intro value slice pins s σ H x y v u Q I rx ry h hs
  obtain ⟨p, z, r, rfl, rfl, ⟨es, n, u0, hl, hk, e, ru⟩, q⟩ := h
  obtain rfl : v = Value.ref p := rx
  obtain ⟨t, rfl⟩ := ry
  have hm := mapOf_I (prog := X.prog) (w := X.w) I.kIn hl hk
  exact tail_any hm.typeIs slot_dict_getitem.lookup (wpAny_getItem_of (intKind_is X.prog X.w z t) hm e ⟨r, H, I.tok _, ru, q⟩) hs
end
/-- g(e, ..): g any expression (no name, no attribute) that gives a def; the promise goes with the address -/
def tCallG (S : Addr → Sp → Prop) (tg : TE) (t : TA) : TE := fun σ H Q => tg σ H fun x H1 => ∃ f sp, x = .ref f ∧ S f sp ∧ t σ H1 fun vs H2 => sp vs H2 Q (fun _ _ _ => False)
section
variable {X : Cx} {pos : Pos} {g e : Expr} {es : List Expr} {tg : TE} {t : TA} {S : Addr → Sp → Prop}
theorem pe_callG (A : ∀ f sp, S f sp → ∃ k, Room k X.A ∧ Held X.prog X.w X.K X.mg X.base k f sp) (hg : PE X g tg) (ha : PA X (e :: es) t)
    (hev : eval (.Call g (e :: es) [] pos) X.env = (do callWith pos (← eval g X.env) [] (backTo pos (starEach (e :: es) X.env)) (backToKw pos (keywordEach [] X.env))) := by rfl)
    (he : starEach (e :: es) X.env = (false, eval e X.env) :: starEach es X.env := by rfl) (hpl : (backTo pos (starEach es X.env)).any (·.1) = false := by rfl) :
    PE X (.Call g (e :: es) [] pos) (tCallG S tg t) := by
  refine ⟨fun pins s σ H Q I h => ?_⟩
  rw [hev]
  refine wpAny_bind (thn (hg.run pins s σ H _ I h) fun u s1 ⟨x, H1, I1, r1, f, sp, ex, hS, ht⟩ => ?_)
  subst ex
  obtain rfl : u = Value.ref f := r1
  obtain ⟨k, hr, hh⟩ := A f sp hS
  obtain ⟨fd, ps, F, hk, hb⟩ := hh.ex
  refine PySem.W.callWith_K (h₀ := X.base) I1.ok.mod.kin hk (thn (ha.run pos pins s1 σ _ _ I1 ht) fun us s2 ⟨vs, H2, I2, r, q⟩ => ⟨I2.kIn, ?_⟩) he hpl
  refine run_fn (E := fun _ _ _ => False) (dvs := []) (ds := []) F hr hb .nil (fun _ _ _ _ _ _ _ z => z.elim) I2 r ?_
  rw [List.append_nil]
  exact q
end
end Ct
set_option Elab.async false
set_option maxRecDepth 100000
set_option maxHeartbeats 2000000
/-! Short words: a def of the text with its promise, its call; a loop over a list by what is taken and what is left. -/
namespace Ct
open PySem PySem.Spec PyProof.Rows L2
/-- the def x of the text, as the top has written it -/
def DefF (K : PySem.W.Frag) (mg : Str → Option Value) (x : Str) (st : Stmt) : Prop := ∃ f fd, mg x = some (.ref f) ∧ Fun K x x st f fd
/-- the constant x of the text -/
def ConF (mg : Str → Option Value) (x : Str) (i : Int) : Prop := ∃ t, mg x = some (.int i t)
theorem defF_mk {K : PySem.W.Frag} {h : Heap} {mg : Str → Option Value} (X : K.In h) (G : h.Ns mainGlobals mg) {x : Str} {st : Stmt} {f : Addr} {oc : Value} {od an : Option Addr} {osl : Array (Option Value)} {kV doc pm cdv ct : Value}
    (a : PySem.W.nsIn K mainGlobals x = some (some (.ref f)))
    (l : K.lookup f = some ⟨oc, od, .func (PySem.W.fnOf x x (defArgs st) (defBody st) (defScope st) .none kV doc pm an cdv ct), osl⟩)
    (c : PySem.W.codeIn K cdv x = true) (k : PySem.W.keepIn K (.ref f) = true) : DefF K mg x st := ⟨f, _, PySem.W.mg_of X G a, fun_mk l c k⟩
theorem conF_mk {K : PySem.W.Frag} {h : Heap} {mg : Str → Option Value} (X : K.In h) (G : h.Ns mainGlobals mg) {x : Str} {i : Int} {t : Tok}
    (a : PySem.W.nsIn K mainGlobals x = some (some (.int i t))) : ConF mg x i := ⟨t, PySem.W.mg_of X G a⟩
/-- a def that keeps its promise, as its callers want it -/
structure Def (P : Program) (w : World) (K : PySem.W.Frag) (mg : Str → Option Value) (base : Heap) (k : Nat) (x : Str) (ps : List Str) (sp : Sp) : Prop where
  ex : ∃ f fd, FnOk P w K mg base CX0 k f fd ps sp ∧ mg x = some (.ref f) ∧ PySem.W.keepIn K (.ref f) = true ∧ Binds K fd ps []
section
variable {X : Cx} {k : Nat} {sp : Sp} {ps : List Str} {x : Str} {p pos : Pos} {e : Expr} {es : List Expr} {t : TA}
theorem pe_callD (D : Def X.prog X.w X.K X.mg X.base k x ps sp) (hr : Room k X.A) (ha : PA X (e :: es) t) (hg : Gl X x := by rfl) (hdb : (x == ("__debug__" : Str)) = false := by decide)
    (he : starEach (e :: es) X.env = (false, eval e X.env) :: starEach es X.env := by rfl) (hpl : (backTo pos (starEach es X.env)).any (·.1) = false := by rfl) :
    PE X (.Call (.Name x p) (e :: es) [] pos) (tCall sp [] E0 t) := by
  obtain ⟨f, fd, F, hm, hk, hb⟩ := D.ex
  exact pe_call F hr hg hm hk hb .nil pass0 ha hdb he hpl
theorem pe_conF {i : Int} (c : ConF X.mg x i) (hg : Gl X x := by rfl) (hdb : (x == ("__debug__" : Str)) = false := by decide) : PE X (.Name x p) (tC (.int i)) := by
  obtain ⟨t, h⟩ := c
  exact pe_glob hg h ⟨_, rfl⟩ hdb
end
/-- a def of the text keeps its promise: its body, its scope -/
theorem Def.mk' {P : Program} {w : World} {K : PySem.W.Frag} {mg : Str → Option Value} {base : Heap} {k : Nat} {x : Str} {st : Stmt} {N ps : List Str} {sp : Sp} (D : DefF K mg x st) (S : FnScope N ps (defScope st))
    (hb : ∀ (kV doc pm : Value) (an : Option Addr) (cdv ct : Value) (us : List Value), us.length = ps.length → bindArgs (PySem.W.fnOf x x (defArgs st) (defBody st) (defScope st) .none kV doc pm an cdv ct) ⟨us, []⟩ = pure (ps.zip us))
    (len : ∀ vs H Q E, sp vs H Q E → vs.length = ps.length)
    (hbody : ∀ (f : Addr) (cdv : Value) (A : Around) (outer : List Env) (s : Shared) (H : Hp) (vs : List V) (Q : VK) (E : XK), Room k (A.deeper (envOfC x (defScope st) s.heap.objs.size f cdv)) → sp vs H Q E →
      ∃ t, PSs (cxOf CX0 P w K mg base N x (defScope st) f cdv A outer s H E).nox (defBody st) t ∧ t { nx := fun _ H' => Q .non H', rt := Q } (start N vs) H) : Def P w K mg base (k + 1) x ps sp := by
  obtain ⟨f, fd, hm, F⟩ := D
  exact ⟨f, fd, F.ok S len (hbody f), hm, F.kp, F.binds hb⟩
/-! ### loops over a list: what is taken, what is left -/
theorem getElem?_pre {α : Type} : ∀ {l : List α} {i : Nat} {x : α}, l[i]? = some x → l = l.take i ++ x :: l.drop (i + 1)
  | [], i, x, h => by simp at h
  | a :: l, 0, x, h => by
    have e : a = x := Option.some.inj h
    subst e
    rfl
  | a :: l, i + 1, x, h => by
    have ih := getElem?_pre (l := l) (i := i) (x := x) h
    show a :: l = a :: (l.take i ++ x :: l.drop (i + 1))
    rw [← ih]
theorem take_snoc {α : Type} : ∀ {l : List α} {i : Nat} {x : α}, l[i]? = some x → l.take (i + 1) = l.take i ++ [x]
  | [], i, x, h => by simp at h
  | a :: l, 0, x, h => by
    have e : a = x := Option.some.inj h
    subst e
    rfl
  | a :: l, i + 1, x, h => by
    have ih := take_snoc (l := l) (i := i) (x := x) h
    show a :: l.take (i + 1) = a :: l.take i ++ [x]
    rw [ih]
    rfl
theorem map_at {α β : Type} {f : α → β} {l : List α} {i : Nat} {y : β} (h : (l.map f)[i]? = some y) : ∃ x, l[i]? = some x ∧ y = f x := by
  rw [List.getElem?_map] at h
  cases e : l[i]? with
  | none =>
    rw [e] at h
    cases h
  | some x =>
    rw [e] at h
    exact ⟨x, rfl, (Option.some.inj h).symm⟩
theorem for_pre {α : Type} {K : PySem.W.Frag} {a : Addr} {l : List α} {f : α → V} {g : TG} {tb : TS} {D : Ends} {σ : L2.St} {H : Hp} (Pv : List α → L2.St → Hp → Prop) (h0 : Pv [] σ H) (hl : ∀ pre σ H, Pv pre σ H → SqL K H a (l.map f))
    (hs : ∀ pre x post σ H, l = pre ++ x :: post → Pv pre σ H → g (f x) σ H fun σ2 H2 => tb { D with nx := Pv (pre ++ [x]), ct := Pv (pre ++ [x]), bk := D.nx } σ2 H2) (hd : ∀ σ H, Pv l σ H → D.nx σ H) :
    ∃ W : Nat → Nat → L2.St → Hp → Prop, (∃ m, W 0 m σ H) ∧ ∀ i m σ H, W i m σ H →
      ((Itl K a).stop i H ∧ D.nx σ H) ∨ ((Itl K a).go i H ∧ ∃ N : L2.St → Hp → Prop, (∀ σ' H', N σ' H' → ∃ m', m' < m ∧ W (i + 1) m' σ' H') ∧ ∀ x H', (Itl K a).yld i H x H' → g x σ H' fun σ2 H2 => tb { D with nx := N, ct := N, bk := D.nx } σ2 H2) := by
  refine for_list (K := K) (a := a) (xs := l.map f) (fun i σ H => Pv (l.take i) σ H) (by rw [List.take_zero]; exact h0) (fun i σ H _ p => hl _ σ H p) ?_ ?_
  · intro i y σ H hy p
    obtain ⟨x, hx, rfl⟩ := map_at hy
    have q := hs (l.take i) x (l.drop (i + 1)) σ H (getElem?_pre hx) p
    rw [← take_snoc hx] at q
    exact q
  · intro σ H p
    rw [List.length_map, List.take_length] at p
    exact hd σ H p
/-- ints as values -/
abbrev nV (n : Nat) : V := .int (n : Int)
end Ct
set_option Elab.async false
set_option maxRecDepth 100000
set_option maxHeartbeats 2000000
namespace Ct
open PySem PySem.Spec PyProof.Rows L2
def top (i : Nat) : Stmt := PySem.Challenge.pw_convoytimes_s01_answers.main.body.getD i (.Pass ⟨0, 0, 0, 0⟩)
abbrev s_first : Stmt := top 7
abbrev s_wfrom : Stmt := top 8
/-- the first number of a list that is at least n -/
def firstFrom (ds : List Nat) (n : Nat) : Option Nat := ds.find? fun d => decide (n ≤ d)
def optV : Option Nat → V
  | none => .non
  | some d => nV d
def spFirst (K : PySem.W.Frag) : Sp := fun vs H Q _ => ∃ (a : Addr) (ds : List Nat) (n : Nat), vs = [.ref a, nV n] ∧ SqL K H a (ds.map nV) ∧ Q (optV (firstFrom ds n)) H
theorem firstFrom_hit {pre post : List Nat} {d n : Nat} (h : firstFrom pre n = none) (hd : n ≤ d) : firstFrom (pre ++ d :: post) n = some d := by
  unfold firstFrom at h ⊢
  rw [List.find?_append, h]
  simp [List.find?_cons, hd]
theorem firstFrom_miss {pre : List Nat} {d n : Nat} (h : firstFrom pre n = none) (hd : ¬ n ≤ d) : firstFrom (pre ++ [d]) n = none := by
  unfold firstFrom at h ⊢
  rw [List.find?_append, h]
  simp [List.find?_cons, hd]
theorem sc_first : FnScope ["departures", "hour", "departure"] ["departures", "hour"] (defScope s_first) := ⟨rfl, rfl, rfl, by decide +kernel, rfl, by decide +kernel, by decide +kernel⟩
section
variable {P : Program} {w : World} {K : PySem.W.Frag} {mg : Str → Option Value} {base : Heap}
theorem def_first (D : DefF K mg "first_departure_from" s_first) : Def P w K mg base 1 "first_departure_from" ["departures", "hour"] (spFirst K) := by
  refine Def.mk' D sc_first (fun _ _ _ _ _ _ us hl => match us, hl with | [_, _], _ => rfl) (fun vs H Q E h => ?_) (fun f cdv A outer s H vs Q E hr h => ?_)
  · obtain ⟨a, ds, n, rfl, _⟩ := h
    rfl
  obtain ⟨a, ds, n, rfl, hS, k⟩ := h
  refine ⟨_, pss_cons (ps_for PassesOwn.never rfl (pi_list (pv 0)) (pg_name (i := 2) sc_first.nd rfl (Or.inl rfl)) (pss_one (ps_if (pt_cmpR op_ge (pv 2) (pv 1) (nomark _)) (pss_one (ps_ret (pv 2))) pss_nil)))
    (pss_one (ps_ret pe_non)), ?_⟩
  refine ⟨_, rfl, a, rfl, ⟨_, hS⟩, for_pre (K := K) (a := a) (l := ds) (f := nV) (fun pre σ H' => H' = H ∧ firstFrom pre n = none ∧ ∃ v, σ = [some (.ref a), some (nV n), v]) ⟨rfl, rfl, none, rfl⟩
    (fun pre σ H' ⟨e, _⟩ => by rw [e]; exact hS) ?_ ?_⟩
  · rintro pre d post σ _ hp ⟨rfl, hn, v, rfl⟩
    refine ⟨_, rfl, _, rfl, _, _, rfl, rfl, _, rfl, ?_⟩
    refine ite2 (fun c => ?_) (fun c => ?_)
    · have c' : n ≤ d := by
        have := of_decide_eq_true c
        omega
      refine ⟨_, rfl, ?_⟩
      rw [hp, firstFrom_hit hn c'] at k
      exact k
    · have c' : ¬ n ≤ d := fun z => c (decide_eq_true (by omega))
      exact ⟨rfl, firstFrom_miss hn c', some (nV d), rfl⟩
  · rintro σ _ ⟨rfl, hn, v, rfl⟩
    rw [hn] at k
    exact k
end
end Ct
set_option Elab.async false
set_option maxRecDepth 100000
set_option maxHeartbeats 2000000
namespace Ct
open PySem PySem.Spec PyProof.Rows L2
open Km561 (Ship)
abbrev s_weighted : Stmt := top 9
abbrev s_longest : Stmt := top 10
/-! ### ships: each a tuple of two numbers -/
structure ShL (H : Hp) (sl : Addr) (zs : List (Addr × Ship)) : Prop where
  lst : H sl = some (.lst (zs.map fun z => V.ref z.1))
  at_ : ∀ z ∈ zs, H z.1 = some (.tup [nV z.2.arrival, nV z.2.weight])
/-- the waiting of one served ship, weighted -/
def wt (ds : List Nat) (s : Ship) : Nat := s.weight * ((firstFrom ds s.arrival).getD s.arrival - s.arrival)
def served (ds : List Nat) (s : Ship) : Bool := (firstFrom ds s.arrival).isSome
def weighted (ss : List Ship) (ds : List Nat) : Option Nat := if ss.all (served ds) then some (Km561.sum (ss.map (wt ds))) else none
theorem sum_snoc (l : List Nat) (x : Nat) : Km561.sum (l ++ [x]) = Km561.sum l + x := by
  unfold Km561.sum
  rw [List.foldl_append]
  rfl
theorem firstFrom_le {ds : List Nat} {n d : Nat} (h : firstFrom ds n = some d) : n ≤ d ∧ d ∈ ds := by
  unfold firstFrom at h
  exact ⟨of_decide_eq_true (List.find?_some (p := fun d => decide (n ≤ d)) h), List.mem_of_find?_eq_some h⟩
def waitV : Option Nat → Nat → V
  | none, _ => .non
  | some d, n => nV (d - n)
def spWfrom (K : PySem.W.Frag) : Sp := fun vs H Q _ => ∃ (a : Addr) (ds : List Nat) (n : Nat), vs = [.ref a, nV n] ∧ SqL K H a (ds.map nV) ∧ Q (waitV (firstFrom ds n) n) H
theorem sc_wfrom : FnScope ["departures", "arrival", "departure"] ["departures", "arrival"] (defScope s_wfrom) := ⟨rfl, rfl, rfl, by decide +kernel, rfl, by decide +kernel, by decide +kernel⟩
def spWeighted (K : PySem.W.Frag) : Sp := fun vs H Q _ => ∃ (sl dl : Addr) (zs : List (Addr × Ship)) (ds : List Nat), vs = [.ref sl, .ref dl] ∧ ShL H sl zs ∧ SqL K H dl (ds.map nV) ∧ (∀ z ∈ zs, z.2.weight ≤ 9) ∧
  Q (optV (weighted (zs.map (·.2)) ds)) H
theorem sc_weighted : FnScope ["ships", "departures", "total", "arrival", "weight", "waiting"] ["ships", "departures"] (defScope s_weighted) := ⟨rfl, rfl, rfl, by decide +kernel, rfl, by decide +kernel, by decide +kernel⟩
/-! ### the longest waiting -/
def longStep (ss : List Ship) (ds : List Nat) (best : Option (Nat × Nat)) (i : Nat) : Option (Nat × Nat) :=
  match firstFrom ds (ss.getD i ⟨0, 1⟩).arrival with
  | none => best
  | some d => match best with
    | none => some (i, d - (ss.getD i ⟨0, 1⟩).arrival)
    | some other => if other.2 < d - (ss.getD i ⟨0, 1⟩).arrival then some (i, d - (ss.getD i ⟨0, 1⟩).arrival) else some other
def long (ss : List Ship) (ds : List Nat) : Option (Nat × Nat) := (List.range ss.length).foldl (longStep ss ds) none
theorem range_more (n : Nat) {α : Type} (f : α → Nat → α) (x : α) : (List.range (n + 1)).foldl f x = f ((List.range n).foldl f x) n := by
  rw [List.range_succ, List.foldl_append]
  rfl
/-- what holds the best so far: None, or a tuple of ship and waiting time -/
def BestAt (H : Hp) (v : V) : Option (Nat × Nat) → Prop
  | none => v = .non
  | some b => ∃ p, v = .ref p ∧ H p = some (.tup [nV b.1, nV b.2])
theorem BestAt.same {H H' : Hp} {v : V} {b : Option (Nat × Nat)} (h : BestAt H v b) (s : Same H H') : BestAt H' v b := by
  cases b with
  | none => exact h
  | some b =>
    obtain ⟨p, e, h⟩ := h
    exact ⟨p, e, s _ _ h⟩
def spLongest (K : PySem.W.Frag) : Sp := fun vs H Q _ => ∃ (sl dl : Addr) (zs : List (Addr × Ship)) (ds : List Nat), vs = [.ref sl, .ref dl] ∧ ShL H sl zs ∧ SqL K H dl (ds.map nV) ∧ zs.length ≤ 1000 ∧
  ∀ H' v, Same H H' → BestAt H' v (long (zs.map (·.2)) ds) → Q v H'
theorem sc_longest : FnScope ["ships", "departures", "longest", "ship", "waiting"] ["ships", "departures"] (defScope s_longest) := ⟨rfl, rfl, rfl, by decide +kernel, rfl, by decide +kernel, by decide +kernel⟩
theorem Same.upd {H H' : Hp} {p : Addr} {o : HO} (s : Same H H') (h : H' p = none) : Same H (upd H' p o) := fun b x e => by
  rw [upd_ne (ne_of_none (s _ _ e) h)]
  exact s _ _ e
theorem same_upd {H : Hp} {p : Addr} {o : HO} (h : H p = none) : Same H (upd H p o) := Same.upd (Same.refl H) h
theorem ShL.same {H H' : Hp} {sl : Addr} {zs : List (Addr × Ship)} (h : ShL H sl zs) (s : Same H H') : ShL H' sl zs := ⟨s _ _ h.lst, fun z m => s _ _ (h.at_ z m)⟩
section
variable {P : Program} {w : World} {K : PySem.W.Frag} {mg : Str → Option Value} {base : Heap}
theorem def_wfrom (D : DefF K mg "waiting_from" s_wfrom) (D1 : Def P w K mg base 1 "first_departure_from" ["departures", "hour"] (spFirst K)) :
    Def P w K mg base 2 "waiting_from" ["departures", "arrival"] (spWfrom K) := by
  refine Def.mk' D sc_wfrom (fun _ _ _ _ _ _ us hl => match us, hl with | [_, _], _ => rfl) (fun vs H Q E h => ?_) (fun f cdv A outer s H vs Q E hr h => ?_)
  · obtain ⟨a, ds, n, rfl, _⟩ := h
    rfl
  obtain ⟨a, ds, n, rfl, hS, k⟩ := h
  refine ⟨_, pss_cons (ps_set (i := 2) sc_wfrom.nd rfl (Or.inl rfl) (pe_callD D1 hr (pa_cons (pv 0) (pa_cons (pv 1) pa_nil))))
    (pss_cons (ps_if (pt_cmp (pc_isN (pv 2))) (pss_one (ps_ret pe_non)) pss_nil)
    (pss_one (ps_ret (pe_op op_sub (pv 2) (pv 1))))), ?_⟩
  refine ⟨_, rfl, _, rfl, a, ds, n, rfl, hS, ?_⟩
  cases e : firstFrom ds n with
  | none =>
    rw [e] at k
    exact ⟨_, rfl, _, rfl, iteT k⟩
  | some d =>
    rw [e] at k
    obtain ⟨hle, _⟩ := firstFrom_le e
    refine ⟨_, rfl, _, rfl, iteF ⟨_, rfl, _, rfl, _, _, rfl, rfl, ?_⟩⟩
    have e2 : ((d : Int) - (n : Int)) = ((d - n : Nat) : Int) := by omega
    show Q (V.int ((d : Int) - (n : Int))) H
    rw [e2]
    exact k
theorem def_weighted (D : DefF K mg "weighted_waiting" s_weighted) (D1 : Def P w K mg base 2 "waiting_from" ["departures", "arrival"] (spWfrom K)) :
    Def P w K mg base 3 "weighted_waiting" ["ships", "departures"] (spWeighted K) := by
  refine Def.mk' D sc_weighted (fun _ _ _ _ _ _ us hl => match us, hl with | [_, _], _ => rfl) (fun vs H Q E h => ?_) (fun f cdv A outer s H vs Q E hr h => ?_)
  · obtain ⟨a, b, zs, ds, rfl, _⟩ := h
    rfl
  obtain ⟨sl, dl, zs, ds, rfl, hZ, hS, hw, k⟩ := h
  refine ⟨_, pss_cons (ps_set (i := 2) sc_weighted.nd rfl (Or.inl rfl) pe_int)
    (pss_cons (ps_for PassesOwn.never rfl (pi_list (pv 0)) (pg_tup rfl (pgs_cons (pg_name (i := 3) sc_weighted.nd rfl (Or.inl rfl)) (pgs_cons (pg_name (i := 4) sc_weighted.nd rfl (Or.inl rfl)) pgs_nil)))
      (pss_cons (ps_set (i := 5) sc_weighted.nd rfl (Or.inl rfl) (pe_callD D1 hr (pa_cons (pv 1) (pa_cons (pv 3) pa_nil))))
      (pss_cons (ps_if (pt_cmp (pc_isN (pv 5))) (pss_one (ps_ret pe_non)) pss_nil)
      (pss_one (ps_aug (i := 2) sc_weighted.nd rfl (Or.inl rfl) (pe_op op_mul (pv 4) (pv 5)) ip_add)))))
    (pss_one (ps_ret (pv 2)))), ?_⟩
  refine ⟨_, rfl, sl, rfl, ⟨_, SqL.of hZ.lst⟩, for_pre (K := K) (a := sl) (l := zs) (f := fun z => V.ref z.1) (fun pre σ H' => H' = H ∧ (pre.map (·.2)).all (served ds) = true ∧
    ∃ v3 v4 v5, σ = [some (.ref sl), some (.ref dl), some (nV (Km561.sum ((pre.map (·.2)).map (wt ds)))), v3, v4, v5]) ⟨rfl, rfl, none, none, none, rfl⟩
    (fun pre σ H' ⟨e, _⟩ => by rw [e]; exact SqL.of hZ.lst) ?_ ?_⟩
  · rintro pre z post σ _ hp ⟨rfl, ha, v3, v4, v5, rfl⟩
    have hz : z ∈ zs := by rw [hp]; simp
    refine ⟨_, _, rfl, SqT.of (hZ.at_ z hz), rfl, _, _, rfl, _, _, rfl, rfl, ?_⟩
    refine ⟨_, rfl, _, rfl, dl, ds, z.2.arrival, rfl, hS, ?_⟩
    cases e : firstFrom ds z.2.arrival with
    | none =>
      refine ⟨_, rfl, _, rfl, iteT ?_⟩
      have ev : weighted (zs.map (·.2)) ds = none := by
        unfold weighted
        rw [if_neg]
        intro c
        have := List.all_eq_true.mp c z.2 (List.mem_map_of_mem hz)
        unfold served at this
        rw [e] at this
        cases this
      rw [ev] at k
      exact k
    | some d =>
      obtain ⟨hle, _⟩ := firstFrom_le e
      refine ⟨_, rfl, _, rfl, iteF ?_⟩
      have h9 := hw z hz
      refine ⟨_, rfl, _, rfl, _, rfl, _, _, rfl, rfl, .inl ⟨by omega, by omega⟩, _, _, rfl, rfl, ?_⟩
      refine ⟨rfl, ?_, some (nV z.2.arrival), some (nV z.2.weight), some (nV (d - z.2.arrival)), ?_⟩
      · rw [List.map_append, List.all_append, ha]
        show (true && (served ds z.2 && true)) = true
        unfold served
        rw [e]
        rfl
      · rw [List.map_append, List.map_append, List.map_cons, List.map_nil, List.map_cons, List.map_nil, sum_snoc]
        have e2 : wt ds z.2 = z.2.weight * (d - z.2.arrival) := by
          unfold wt
          rw [e]
          rfl
        rw [e2]
        have e3 : ((Km561.sum ((pre.map (·.2)).map (wt ds)) : Nat) : Int) + (z.2.weight : Int) * ((d - z.2.arrival : Nat) : Int) = ((Km561.sum ((pre.map (·.2)).map (wt ds)) + z.2.weight * (d - z.2.arrival) : Nat) : Int) := by
          rw [Int.natCast_add, Int.natCast_mul]
        show [_, _, some (V.int (_ + _ * _)), _, _, _] = [_, _, some (V.int _), _, _, _]
        rw [e3]
        rfl
  · rintro σ _ ⟨rfl, ha, v3, v4, v5, rfl⟩
    refine ⟨_, rfl, ?_⟩
    have ev : weighted (zs.map (·.2)) ds = some (Km561.sum ((zs.map (·.2)).map (wt ds))) := by
      unfold weighted
      rw [if_pos ha]
    rw [ev] at k
    exact k
theorem def_longest (D : DefF K mg "longest_waiting_ship" s_longest) (D1 : Def P w K mg base 2 "waiting_from" ["departures", "arrival"] (spWfrom K)) (bl : mg "len" = none) (br : mg "range" = none) :
    Def P w K mg base 3 "longest_waiting_ship" ["ships", "departures"] (spLongest K) := by
  refine Def.mk' D sc_longest (fun _ _ _ _ _ _ us hl => match us, hl with | [_, _], _ => rfl) (fun vs H Q E h => ?_) (fun f cdv A outer s H vs Q E hr h => ?_)
  · obtain ⟨a, b, zs, ds, rfl, _⟩ := h
    rfl
  obtain ⟨sl, dl, zs, ds, rfl, hZ, hS, hlen, k⟩ := h
  refine ⟨_, pss_cons (ps_set (i := 2) sc_longest.nd rfl (Or.inl rfl) pe_non)
    (pss_cons (ps_for PassesOwn.never rfl (pi_range1 rfl br (pa_cons (pe_callB call_len_seq (by rfl) bl PySem.boot_len (pa_cons (pv 0) pa_nil)) pa_nil)) (pg_name (i := 3) sc_longest.nd rfl (Or.inl rfl))
      (pss_cons (ps_set (i := 4) sc_longest.nd rfl (Or.inl rfl) (pe_callD D1 hr (pa_cons (pv 1) (pa_cons (pe_ix ix_tup (pe_ix ix_list (pv 0) (pv 3) (fun _ _ => rfl)) pe_int (fun _ _ => rfl)) pa_nil))))
      (pss_cons (ps_if (pt_cmp (pc_isN (pv 4))) (pss_one ps_continue) pss_nil)
      (pss_one (ps_if (PW.pt (pw_or (pt_cmp (pc_isN (pv 2))) (pw_or1 (pt_cmpR op_gt (pv 4) (pe_ix ix_tup (pv 2) pe_int (fun _ _ => rfl)) (nomark _)))))
        (pss_one (ps_set (i := 2) sc_longest.nd rfl (Or.inl rfl) (pe_tup (pa_cons (pv 3) (pa_cons (pv 4) pa_nil))))) pss_nil)))))
    (pss_one (ps_ret (pv 2)))), ?_⟩
  have hz0 : zs.length = (zs.map (·.2)).length := by rw [List.length_map]
  refine ⟨_, rfl, sl, _, rfl, .inl (SqL.of hZ.lst), ((zs.length : Nat) : Int), by rw [List.length_map], by omega, by omega, for_range (lo := 0) (n := ((zs.length : Nat) : Int).toNat)
    (fun i σ H' => Same H H' ∧ ∃ v v3 v4, σ = [some (.ref sl), some (.ref dl), some v, v3, v4] ∧ BestAt H' v ((List.range i).foldl (longStep (zs.map (·.2)) ds) none)) ⟨Same.refl H, _, none, none, rfl, rfl⟩ ?_ ?_⟩
  · rintro i σ H1 hi ⟨sm, v, v3, v4, rfl, hb⟩
    have hi' : i < zs.length := by omega
    obtain ⟨z, hz⟩ : ∃ z, zs[i]? = some z := ⟨_, List.getElem?_eq_getElem hi'⟩
    have hzm : z ∈ zs := List.mem_of_getElem? hz
    have hZ1 := hZ.same sm
    have e0 : (0 : Int) + (i : Int) = (i : Int) := Int.zero_add _
    have eg : ((zs.map (·.2)).getD i ⟨0, 1⟩) = z.2 := by
      rw [List.getD_eq_getElem?_getD, List.getElem?_map, hz]
      rfl
    have st : (List.range (i + 1)).foldl (longStep (zs.map (·.2)) ds) none = longStep (zs.map (·.2)) ds ((List.range i).foldl (longStep (zs.map (·.2)) ds) none) i := range_more i _ _
    refine ⟨_, rfl, _, rfl, _, rfl, sl, _, _, _, rfl, rfl, SqL.of hZ1.lst, by rw [e0]; exact atI_nat (v := V.ref z.1) (by rw [List.getElem?_map, hz]; rfl), _, _, _, _, rfl, rfl, SqT.of (hZ1.at_ z hzm), atI_nat (j := 0) rfl, ?_⟩
    refine ⟨dl, ds, z.2.arrival, rfl, sm.seq hS, ?_⟩
    cases e : firstFrom ds z.2.arrival with
    | none =>
      refine ⟨_, rfl, _, rfl, iteT ?_⟩
      refine ⟨sm, v, _, _, rfl, ?_⟩
      have e2 : longStep (zs.map (·.2)) ds ((List.range i).foldl (longStep (zs.map (·.2)) ds) none) i = (List.range i).foldl (longStep (zs.map (·.2)) ds) none := by
        unfold longStep
        rw [eg, e]
      rw [st, e2]
      exact hb
    | some d =>
      refine ⟨_, rfl, _, rfl, iteF ?_⟩
      generalize hB : (List.range i).foldl (longStep (zs.map (·.2)) ds) none = best at hb st
      have yes : (best = none ∨ ∃ b, best = some b ∧ b.2 < d - z.2.arrival) → (∀ p, H1 p = none → Same H (upd H1 p (.tup [.int (0 + (i : Int)), nV (d - z.2.arrival)])) ∧ ∃ v' v3 v4, [some (V.ref sl), some (V.ref dl), some (V.ref p), some (V.int (0 + (i : Int))), some (nV (d - z.2.arrival))] = [some (V.ref sl), some (V.ref dl), some v', v3, v4] ∧
          BestAt (upd H1 p (.tup [.int (0 + (i : Int)), nV (d - z.2.arrival)])) v' ((List.range (i + 1)).foldl (longStep (zs.map (·.2)) ds) none)) := fun hc p hp => by
        refine ⟨Same.upd sm hp, _, _, _, rfl, ?_⟩
        have e2 : longStep (zs.map (·.2)) ds best i = some (i, d - z.2.arrival) := by
          unfold longStep
          rw [eg, e]
          rcases hc with rfl | ⟨b, rfl, hlt⟩
          · rfl
          · exact if_pos hlt
        rw [st, e2]
        exact ⟨p, rfl, by rw [upd_same, e0]⟩
      cases best with
      | none =>
        obtain rfl : v = .non := hb
        exact ⟨_, rfl, _, rfl, iteT (iteT ⟨_, rfl, _, rfl, by show 2 ≤ sizeLine; decide, fun p hp => yes (.inl rfl) p hp⟩)⟩
      | some b =>
        obtain ⟨q, rfl, hq⟩ := hb
        refine ⟨_, rfl, _, rfl, iteF ⟨_, rfl, _, rfl, q, _, _, _, rfl, rfl, SqT.of hq, atI_nat (j := 1) rfl, _, _, rfl, rfl, _, rfl, ite2 (fun c => ?_) (fun c => ?_)⟩⟩
        · have c' : b.2 < d - z.2.arrival := by
            have := of_decide_eq_true c
            omega
          exact ⟨_, rfl, _, rfl, by show 2 ≤ sizeLine; decide, fun p hp => yes (.inr ⟨b, rfl, c'⟩) p hp⟩
        · have c' : ¬ b.2 < d - z.2.arrival := fun x => c (decide_eq_true (by omega))
          refine ⟨sm, _, _, _, rfl, ?_⟩
          have e2 : longStep (zs.map (·.2)) ds (some b) i = some b := by
            unfold longStep
            rw [eg, e]
            exact if_neg c'
          rw [st, e2]
          exact ⟨q, rfl, hq⟩
  · rintro σ H1 ⟨sm, v, v3, v4, rfl, hb⟩
    refine ⟨_, rfl, k H1 v sm ?_⟩
    rw [show ((zs.length : Nat) : Int).toNat = (zs.map (·.2)).length by rw [List.length_map]; rfl] at hb
    exact hb
end
end Ct
set_option Elab.async false
set_option maxRecDepth 100000
set_option maxHeartbeats 2000000
namespace Ct
open PySem PySem.Spec PyProof.Rows L2
open Km561 (Ship Timetable)
/-! ### the timetable in the heap -/
def iF (sl dl : Addr) : List (Str × V) := [("ships", .ref sl), ("departures", .ref dl)]
theorem lk_here {k : Str} {v : V} {r : List (Str × V)} : List.lookup k ((k, v) :: r) = some v := by
  have e : (k == k) = true := beq_self_eq_true k
  simp only [List.lookup, e]
theorem lk_past {k g : Str} {v : V} {r : List (Str × V)} (h : (k == g) = false) : List.lookup k ((g, v) :: r) = List.lookup k r := by
  simp only [List.lookup, h]
theorem lkS {sl dl : Addr} : (iF sl dl).lookup ("ships" : Str) = some (.ref sl) := lk_here
theorem lkD {sl dl : Addr} : (iF sl dl).lookup ("departures" : Str) = some (.ref dl) := (lk_past (by decide +kernel)).trans lk_here
theorem put_here {f : Str} {v x : V} {r : List (Str × V)} : putF f v ((f, x) :: r) = (f, v) :: r := if_pos rfl
theorem put_past {f g : Str} {v x : V} {r : List (Str × V)} (h : ¬ g = f) : putF f v ((g, x) :: r) = (g, x) :: putF f v r := if_neg h
theorem putD {sl dl dl' : Addr} : putF "departures" (.ref dl') (iF sl dl) = iF sl dl' := (put_past (by decide +kernel)).trans (congrArg _ put_here)
theorem iF_new {sl dl : Addr} : putF "departures" (.ref dl) (putF "ships" (.ref sl) []) = iF sl dl := (put_past (by decide +kernel)).trans rfl
structure TT (C : Addr) (H : Hp) (a sl dl : Addr) (zs : List (Addr × Ship)) (tt : Timetable) : Prop where
  ins : ∃ dx, H a = some (.ins C dx (iF sl dl))
  sh : ShL H sl zs
  zs_ : zs.map (·.2) = tt.ships
  dep : H dl = some (.lst (tt.departures.map nV))
  ne : sl ≠ dl
/-- the ranges that the document grants -/
structure Good (tt : Timetable) : Prop where
  len : tt.ships.length ≤ 8
  arr : ∀ s ∈ tt.ships, s.arrival ≤ 48
  wgt : ∀ s ∈ tt.ships, 1 ≤ s.weight ∧ s.weight ≤ 9
  dlen : tt.departures.length ≤ 8
  dhr : ∀ d ∈ tt.departures, d ≤ 48
  srt : tt.departures.Pairwise (· < ·)
theorem TT.slen {C : Addr} {H : Hp} {a sl dl : Addr} {zs : List (Addr × Ship)} {tt : Timetable} (T : TT C H a sl dl zs tt) : zs.length = tt.ships.length := by
  rw [← T.zs_, List.length_map]
theorem TT.same {C : Addr} {H H' : Hp} {a sl dl : Addr} {zs : List (Addr × Ship)} {tt : Timetable} (T : TT C H a sl dl zs tt) (s : Same H H') : TT C H' a sl dl zs tt :=
  ⟨let ⟨dx, h⟩ := T.ins; ⟨dx, s _ _ h⟩, T.sh.same s, T.zs_, s _ _ T.dep, T.ne⟩
/-- all but the timetable's own three objects is as it was -/
def Kept (H H' : Hp) (a sl dl : Addr) : Prop := ∀ b o, H b = some o → b ≠ a → b ≠ sl → b ≠ dl → H' b = some o
/-- what the caller is told behind a call that answers -/
def Aft (C a sl dl : Addr) (tt' : Timetable) (nums : List Int) (H : Hp) (Q : VK) : Prop := ∀ (H' : Hp) (sl' dl' : Addr) (zs' : List (Addr × Ship)) (p : Addr), TT C H' a sl' dl' zs' tt' → (sl' = sl ∨ H sl' = none) → (dl' = dl ∨ H dl' = none) →
  Kept H H' a sl dl → H' p = some (.lst (nums.map V.int)) → H p = none → Q (.ref p) H'
theorem Aft.same {C a sl dl : Addr} {tt : Timetable} {nums : List Int} {H H' : Hp} {Q : VK} {zs : List (Addr × Ship)} {p : Addr} (k : Aft C a sl dl tt nums H Q) (T : TT C H a sl dl zs tt) (s : Same H H') (hp : H' p = some (.lst (nums.map V.int))) (hn : H p = none) : Q (.ref p) H' :=
  k H' sl dl zs p (T.same s) (.inl rfl) (.inl rfl) (fun b o e _ _ _ => s b o e) hp hn
/-- the promise of an operation: what the specification's step says -/
def spOp (C : Addr) (n : Nat) (call : List Nat → Km561.Call) : Sp := fun vs H Q _ => ∃ (a sl dl : Addr) (zs : List (Addr × Ship)) (tt tt' : Timetable) (r : Km561.Result) (xs : List Nat), vs = .ref a :: xs.map nV ∧ xs.length = n ∧ TT C H a sl dl zs tt ∧ Good tt ∧
  Km561.step (some tt) (call xs) = (some tt', r) ∧ Aft C a sl dl tt' (r.num :: r.nums) H Q
theorem spOp_len {C : Addr} {n : Nat} {call : List Nat → Km561.Call} {vs : List V} {H : Hp} {Q : VK} {E : XK} (h : spOp C n call vs H Q E) : vs.length = n + 1 := by
  obtain ⟨a, sl, dl, zs, tt, tt', r, xs, rfl, hl, _⟩ := h
  rw [List.length_cons, List.length_map, hl]
def c0 (c : Km561.Call) : List Nat → Km561.Call := fun _ => c
def c1 (c : Nat → Km561.Call) : List Nat → Km561.Call := fun xs => match xs with
  | [x] => c x
  | _ => .create
def c2 (c : Nat → Nat → Km561.Call) : List Nat → Km561.Call := fun xs => match xs with
  | [x, y] => c x y
  | _ => .create
theorem len1 {xs : List Nat} (h : xs.length = 1) : ∃ x, xs = [x] := match xs, h with
  | [x], _ => ⟨x, rfl⟩
theorem len2 {xs : List Nat} (h : xs.length = 2) : ∃ x y, xs = [x, y] := match xs, h with
  | [x, y], _ => ⟨x, y, rfl⟩
theorem len0 {xs : List Nat} (h : xs.length = 0) : xs = [] := List.eq_nil_of_length_eq_zero h
theorem Good.sl {tt : Timetable} (g : Good tt) {zs : List (Addr × Ship)} (e : zs.map (·.2) = tt.ships) : zs.length ≤ 8 := by
  have := g.len
  rw [← e, List.length_map] at this
  exact this
/-- what the top has written -/
structure Txt (K : PySem.W.Frag) (mg : Str → Option Value) (C : Addr) : Prop where
  cl : Cls K C
  nS : NoAttr K C "ships"
  nD : NoAttr K C "departures"
  len : mg "len" = none
  range : mg "range" = none
  sorted : mg "sorted" = none
  list : mg "list" = none
  set : mg "set" = none
  min : mg "min" = none
  max : mg "max" = none
  noSuch : ConF mg "NO_SUCH" (-2)
  noInst : ConF mg "NO_INSTANCE" (-11)
  already : ConF mg "ALREADY_THERE" (-17)
  range_ : ConF mg "OUT_OF_RANGE" (-22)
  full : ConF mg "FULL" (-28)
  notServed : ConF mg "NOT_SERVED" (-33)
  lastHour : ConF mg "LAST_HOUR" 48
  leastW : ConF mg "LEAST_WEIGHT" 1
  greatW : ConF mg "GREATEST_WEIGHT" 9
  mostS : ConF mg "MOST_SHIPS" 8
  mostD : ConF mg "MOST_DEPARTURES" 8
  greatP : ConF mg "GREATEST_PRICE" 999
  create : ConF mg "CREATE" 0
/-! ### the small tests -/
abbrev s_is_hour : Stmt := top 28
abbrev s_is_weight : Stmt := top 29
abbrev s_has_ship : Stmt := top 31
theorem sc_is_hour : FnScope ["number"] ["number"] (defScope s_is_hour) := ⟨rfl, rfl, rfl, by decide +kernel, rfl, by decide +kernel, by decide +kernel⟩
theorem sc_is_weight : FnScope ["number"] ["number"] (defScope s_is_weight) := ⟨rfl, rfl, rfl, by decide +kernel, rfl, by decide +kernel, by decide +kernel⟩
theorem sc_has_ship : FnScope ["instance", "ship"] ["instance", "ship"] (defScope s_has_ship) := ⟨rfl, rfl, rfl, by decide +kernel, rfl, by decide +kernel, by decide +kernel⟩
def spIsHour : Sp := fun vs H Q _ => ∃ n : Nat, vs = [nV n] ∧ Q (.bl (decide (n ≤ 48))) H
def spIsWeight : Sp := fun vs H Q _ => ∃ n : Nat, vs = [nV n] ∧ Q (.bl (decide (1 ≤ n ∧ n ≤ 9))) H
def spHasShip (C : Addr) : Sp := fun vs H Q _ => ∃ (a sl dl : Addr) (zs : List (Addr × Ship)) (tt : Timetable) (n : Nat), vs = [.ref a, nV n] ∧ TT C H a sl dl zs tt ∧ Q (.bl (decide (n < tt.ships.length))) H
theorem dec_congr {p q : Prop} [Decidable p] [Decidable q] (h : p ↔ q) : decide p = decide q := by
  by_cases c : p
  · rw [decide_eq_true c, decide_eq_true (h.mp c)]
  · rw [decide_eq_false c, decide_eq_false (fun z => c (h.mpr z))]
section
variable {P : Program} {w : World} {K : PySem.W.Frag} {mg : Str → Option Value} {base : Heap} {C : Addr}
theorem def_is_hour (D : DefF K mg "is_hour" s_is_hour) (T : Txt K mg C) : Def P w K mg base 1 "is_hour" ["number"] spIsHour := by
  refine Def.mk' D sc_is_hour (fun _ _ _ _ _ _ us hl => match us, hl with | [_], _ => rfl) (fun vs H Q E h => ?_) (fun f cdv A outer s H vs Q E hr h => ?_)
  · obtain ⟨n, rfl, _⟩ := h
    rfl
  obtain ⟨n, rfl, k⟩ := h
  refine ⟨_, pss_one (ps_ret (pe_cmpR op_le (pv 0) (pe_conF T.lastHour) (nomark _))), ?_⟩
  refine ⟨_, rfl, _, _, rfl, rfl, ?_⟩
  rw [dec_congr (show n ≤ 48 ↔ (n : Int) ≤ 48 by omega)] at k
  exact k
theorem def_is_weight (D : DefF K mg "is_weight" s_is_weight) (T : Txt K mg C) : Def P w K mg base 1 "is_weight" ["number"] spIsWeight := by
  refine Def.mk' D sc_is_weight (fun _ _ _ _ _ _ us hl => match us, hl with | [_], _ => rfl) (fun vs H Q E h => ?_) (fun f cdv A outer s H vs Q E hr h => ?_)
  · obtain ⟨n, rfl, _⟩ := h
    rfl
  obtain ⟨n, rfl, k⟩ := h
  refine ⟨_, pss_one (ps_ret (pe_chain op_le op_le (pe_conF T.leastW) (pv 0) (pe_conF T.greatW))), ?_⟩
  refine ⟨_, rfl, _, _, rfl, rfl, _, rfl, ite2 (fun c => ?_) (fun c => ?_)⟩
  · have c' := of_decide_eq_true c
    refine ⟨_, _, rfl, rfl, ?_⟩
    rw [dec_congr (show (1 ≤ n ∧ n ≤ 9) ↔ (n : Int) ≤ 9 by omega)] at k
    exact k
  · have c' : ¬ (1 : Int) ≤ (n : Int) := fun z => c (decide_eq_true z)
    rw [decide_eq_false (show ¬ (1 ≤ n ∧ n ≤ 9) by omega)] at k
    exact k
theorem def_has_ship (D : DefF K mg "has_ship" s_has_ship) (T : Txt K mg C) : Def P w K mg base 1 "has_ship" ["instance", "ship"] (spHasShip C) := by
  refine Def.mk' D sc_has_ship (fun _ _ _ _ _ _ us hl => match us, hl with | [_, _], _ => rfl) (fun vs H Q E h => ?_) (fun f cdv A outer s H vs Q E hr h => ?_)
  · obtain ⟨a, sl, dl, zs, tt, n, rfl, _⟩ := h
    rfl
  obtain ⟨a, sl, dl, zs, tt, n, rfl, hT, k⟩ := h
  obtain ⟨dx, hi⟩ := hT.ins
  refine ⟨_, pss_one (ps_ret (pe_cmpR op_lt (pv 1) (pe_callB call_len_seq (by rfl) T.len PySem.boot_len (pa_cons (pe_fld (pv 0) rfl) pa_nil)) (nomark _))), ?_⟩
  refine ⟨_, rfl, _, rfl, a, C, dx, _, _, rfl, hi, T.cl, T.nS, lkS, sl, _, rfl, .inl (SqL.of hT.sh.lst), _, _, rfl, rfl, ?_⟩
  rw [List.length_map, hT.slen]
  rw [dec_congr (show n < tt.ships.length ↔ (n : Int) < (tt.ships.length : Int) by omega)] at k
  exact k
end
end Ct
set_option Elab.async false
set_option maxRecDepth 100000
set_option maxHeartbeats 2000000
namespace Ct
open PySem PySem.Spec PyProof.Rows L2
open Km561 (Ship Timetable)
abbrev s_refusal : Stmt := top 33
abbrev s_add_ship : Stmt := top 34
abbrev s_remove_ship : Stmt := top 35
abbrev s_set_arrival : Stmt := top 36
abbrev s_set_weight : Stmt := top 37
abbrev s_list_ships : Stmt := top 38
theorem sc_refusal : FnScope ["instance", "arrival", "weight"] ["instance", "arrival", "weight"] (defScope s_refusal) := ⟨rfl, rfl, rfl, by decide +kernel, rfl, by decide +kernel, by decide +kernel⟩
theorem sc_add_ship : FnScope ["instance", "arrival", "weight", "refusal"] ["instance", "arrival", "weight"] (defScope s_add_ship) := ⟨rfl, rfl, rfl, by decide +kernel, rfl, by decide +kernel, by decide +kernel⟩
theorem sc_remove_ship : FnScope ["instance", "ship"] ["instance", "ship"] (defScope s_remove_ship) := ⟨rfl, rfl, rfl, by decide +kernel, rfl, by decide +kernel, by decide +kernel⟩
theorem sc_set_arrival : FnScope ["instance", "ship", "arrival", "old"] ["instance", "ship", "arrival"] (defScope s_set_arrival) := ⟨rfl, rfl, rfl, by decide +kernel, rfl, by decide +kernel, by decide +kernel⟩
theorem sc_set_weight : FnScope ["instance", "ship", "weight", "old"] ["instance", "ship", "weight"] (defScope s_set_weight) := ⟨rfl, rfl, rfl, by decide +kernel, rfl, by decide +kernel, by decide +kernel⟩
theorem sc_list_ships : FnScope ["instance", "answer", "arrival", "weight"] ["instance"] (defScope s_list_ships) := ⟨rfl, rfl, rfl, by decide +kernel, rfl, by decide +kernel, by decide +kernel⟩
theorem ixN_nat {n j : Nat} (h : j < n) : ixN n (j : Int) = some j := by
  unfold ixN
  rw [if_pos (by omega), if_pos (by omega)]
  rfl
/-- a new list of one number: an answer that leaves all as it was -/
theorem Aft.one {C a sl dl : Addr} {tt : Timetable} {i : Int} {H : Hp} {Q : VK} {zs : List (Addr × Ship)} {p : Addr} (k : Aft C a sl dl tt [i] H Q) (T : TT C H a sl dl zs tt) (hn : H p = none) : Q (.ref p) (upd H p (.lst [.int i])) :=
  k.same T (same_upd hn) upd_same hn
/-- what is in the heap, behind a change of the list of ships -/
theorem TT.ships {C : Addr} {H : Hp} {a sl dl : Addr} {zs zs' : List (Addr × Ship)} {tt : Timetable} (T : TT C H a sl dl zs tt) {H' : Hp} (k : ∀ b o, H b = some o → b ≠ sl → H' b = some o)
    (hl : H' sl = some (.lst (zs'.map fun z => V.ref z.1))) (ha : ∀ z ∈ zs', H' z.1 = some (.tup [nV z.2.arrival, nV z.2.weight])) {tt' : Timetable} (e1 : zs'.map (·.2) = tt'.ships) (e2 : tt'.departures = tt.departures) : TT C H' a sl dl zs' tt' := by
  obtain ⟨dx, hi⟩ := T.ins
  refine ⟨⟨dx, k _ _ hi (ne_of hi T.sh.lst (by intro z; cases z))⟩, ⟨hl, ha⟩, e1, ?_, T.ne⟩
  rw [e2]
  exact k _ _ T.dep (fun z => T.ne z.symm)
/-- what refuses a ship: a code, or None -/
def refV (tt : Timetable) (x y : Nat) : V := if Km561.isValidShip x y = false then .int (-22) else if Km561.maxShips ≤ Km561.shipCount tt then .int (-28) else .non
def spRefusal (C : Addr) : Sp := fun vs H Q _ => ∃ (a sl dl : Addr) (zs : List (Addr × Ship)) (tt : Timetable) (x y : Nat), vs = [.ref a, nV x, nV y] ∧ TT C H a sl dl zs tt ∧ Q (refV tt x y) H
section
variable {P : Program} {w : World} {K : PySem.W.Frag} {mg : Str → Option Value} {base : Heap} {C : Addr}
theorem def_refusal (D : DefF K mg "refusal_of_ship" s_refusal) (T : Txt K mg C) (D1 : Def P w K mg base 1 "is_hour" ["number"] spIsHour) (D2 : Def P w K mg base 1 "is_weight" ["number"] spIsWeight) :
    Def P w K mg base 2 "refusal_of_ship" ["instance", "arrival", "weight"] (spRefusal C) := by
  refine Def.mk' D sc_refusal (fun _ _ _ _ _ _ us hl => match us, hl with | [_, _, _], _ => rfl) (fun vs H Q E h => ?_) (fun f cdv A outer s H vs Q E hr h => ?_)
  · obtain ⟨a, sl, dl, zs, tt, x, y, rfl, _⟩ := h
    rfl
  obtain ⟨a, sl, dl, zs, tt, x, y, rfl, hT, k⟩ := h
  obtain ⟨dx, hi⟩ := hT.ins
  refine ⟨_, pss_cons (ps_if (PW.pt (pw_or (pt_not (pt_val (pe_callD D1 hr (pa_cons (pv 1) pa_nil)))) (pw_or1 (pt_not (pt_val (pe_callD D2 hr (pa_cons (pv 2) pa_nil))))))) (pss_one (ps_ret (pe_conF T.range_))) pss_nil)
    (pss_cons (ps_if (pt_cmpR op_ge (pe_callB call_len_seq (by rfl) T.len PySem.boot_len (pa_cons (pe_fld (pv 0) rfl) pa_nil)) (pe_conF T.mostS) (nomark _)) (pss_one (ps_ret (pe_conF T.full))) pss_nil)
    (pss_one (ps_ret pe_non))), ?_⟩
  unfold refV at k
  have out : ¬ (x ≤ 48 ∧ 1 ≤ y ∧ y ≤ 9) → Q (.int (-22)) H := fun c => by
    rw [if_pos (show Km561.isValidShip x y = false from decide_eq_false c)] at k
    exact k
  refine ⟨_, rfl, x, rfl, _, rfl, ?_⟩
  by_cases cx : x ≤ 48
  · rw [decide_eq_true cx]
    refine iteF ⟨_, rfl, y, rfl, _, rfl, ?_⟩
    by_cases cy : 1 ≤ y ∧ y ≤ 9
    · rw [decide_eq_true cy]
      refine iteF ?_
      rw [if_neg (show ¬ Km561.isValidShip x y = false by rw [show Km561.isValidShip x y = true from decide_eq_true ⟨cx, cy⟩]; exact Bool.noConfusion)] at k
      refine ⟨_, rfl, a, C, dx, _, _, rfl, hi, T.cl, T.nS, lkS, sl, _, rfl, .inl (SqL.of hT.sh.lst), _, _, rfl, rfl, _, rfl, ?_⟩
      rw [List.length_map, hT.slen]
      refine ite2 (fun c => ?_) (fun c => ?_)
      · have c' := of_decide_eq_true c
        rw [if_pos (show Km561.maxShips ≤ Km561.shipCount tt by show 8 ≤ tt.ships.length; omega)] at k
        exact k
      · have c' : tt.ships.length < 8 := by
          rcases Nat.lt_or_ge tt.ships.length 8 with h | h
          · exact h
          · exact absurd (decide_eq_true (show (tt.ships.length : Int) ≥ 8 by omega)) c
        rw [if_neg (show ¬ Km561.maxShips ≤ Km561.shipCount tt by show ¬ 8 ≤ tt.ships.length; omega)] at k
        exact k
    · rw [decide_eq_false cy]
      exact iteT (out fun z => cy z.2)
  · rw [decide_eq_false cx]
    exact iteT (iteT (out fun z => cx z.1))
theorem def_add_ship (D : DefF K mg "add_ship" s_add_ship) (T : Txt K mg C) (D1 : Def P w K mg base 2 "refusal_of_ship" ["instance", "arrival", "weight"] (spRefusal C)) :
    Def P w K mg base 3 "add_ship" ["instance", "arrival", "weight"] (spOp C 2 (c2 .addShip)) := by
  refine Def.mk' D sc_add_ship (fun _ _ _ _ _ _ us hl => match us, hl with | [_, _, _], _ => rfl) (fun vs H Q E h => spOp_len h) (fun f cdv A outer s H vs Q E hr h => ?_)
  obtain ⟨a, sl, dl, zs, tt, tt', r, xs, rfl, hl, hT, hG, hst, k⟩ := h
  obtain ⟨x, y, rfl⟩ := len2 hl
  obtain ⟨dx, hi⟩ := hT.ins
  refine ⟨_, pss_cons (ps_set (i := 3) sc_add_ship.nd rfl (Or.inl rfl) (pe_callD D1 hr (pa_cons (pv 0) (pa_cons (pv 1) (pa_cons (pv 2) pa_nil)))))
    (pss_cons (ps_if (pt_cmp (pc_notN (pv 3))) (pss_one (ps_ret (pe_lst (pa_cons (pv 3) pa_nil)))) pss_nil)
    (pss_cons (ps_expr (pe_bm PySem.F.plainAttrs_list PySem.F.slot_list_append PySem.F.type_list_append mt_append (pe_fld (pv 0) rfl) (pa_cons (pe_tup (pa_cons (pv 1) (pa_cons (pv 2) pa_nil))) pa_nil)))
    (pss_one (ps_ret (pe_lst (pa_cons (pe_op op_sub (pe_callB call_len_seq (by rfl) T.len PySem.boot_len (pa_cons (pe_fld (pv 0) rfl) pa_nil)) pe_int) pa_nil)))))), ?_⟩
  have hstep : Km561.step (some tt) (.addShip x y) = (some tt', r) := hst
  unfold Km561.step at hstep
  dsimp only at hstep
  refine ⟨_, rfl, _, rfl, _, rfl, a, sl, dl, zs, tt, x, y, rfl, hT, ?_⟩
  unfold refV
  by_cases cv : Km561.isValidShip x y = false
  · rw [if_pos cv]
    rw [if_pos cv] at hstep
    cases hstep
    exact ⟨_, rfl, _, rfl, iteT ⟨_, rfl, by show 1 ≤ sizeLine; decide, fun p hp => k.one hT hp⟩⟩
  · rw [if_neg cv]
    rw [if_neg cv] at hstep
    by_cases cm : Km561.maxShips ≤ Km561.shipCount tt
    · rw [if_pos cm]
      rw [if_pos cm] at hstep
      cases hstep
      exact ⟨_, rfl, _, rfl, iteT ⟨_, rfl, by show 1 ≤ sizeLine; decide, fun p hp => k.one hT hp⟩⟩
    · rw [if_neg cm]
      rw [if_neg cm] at hstep
      cases hstep
      have c' : tt.ships.length < 8 := Nat.lt_of_not_le cm
      have h8 : zs.length < 8 := by rw [hT.slen]; exact c'
      refine ⟨_, rfl, _, rfl, iteF ?_⟩
      refine ⟨_, rfl, a, C, dx, _, _, rfl, hi, T.cl, T.nS, lkS, .inl ⟨rfl, _, SqL.of hT.sh.lst⟩, _, rfl, _, rfl, by show 2 ≤ sizeLine; decide, fun t ht => ?_⟩
      have s1 : Same H (upd H t (.tup [nV x, nV y])) := same_upd ht
      refine ⟨sl, _, _, rfl, rfl, s1 _ _ hT.sh.lst, Nat.lt_of_lt_of_le (by rw [List.length_map]; exact h8) (by show 8 ≤ sizeLine; decide), ?_⟩
      have nts : t ≠ sl := fun z => by rw [z, hT.sh.lst] at ht; cases ht
      have ha2 : upd (upd H t (.tup [nV x, nV y])) sl (.lst (zs.map (fun z => V.ref z.1) ++ [.ref t])) a = some (.ins C dx (iF sl dl)) := by
        rw [upd_ne (ne_of hi hT.sh.lst (by intro z; cases z))]
        exact s1 _ _ hi
      refine ⟨_, rfl, a, C, dx, _, _, rfl, ha2, T.cl, T.nS, lkS, sl, _, rfl, .inl (SqL.of upd_same), _, _, rfl, rfl, by show 1 ≤ sizeLine; decide, fun p hp => ?_⟩
      have hp0 : H p = none := by
        cases e : H p with
        | none => rfl
        | some o =>
          by_cases q : p = sl
          · rw [q, upd_same] at hp
            cases hp
          · rw [upd_ne q, s1 _ _ e] at hp
            cases hp
      have nps : sl ≠ p := fun z => by rw [← z, hT.sh.lst] at hp0; cases hp0
      refine k _ sl dl (zs ++ [(t, ⟨x, y⟩)]) p ?_ (.inl rfl) (.inl rfl) ?_ ?_ hp0
      · refine hT.ships (fun b o e nb => ?_) ?_ ?_ ?_ rfl
        · rw [upd_ne (ne_of_none e hp0), upd_ne nb]
          exact s1 _ _ e
        · rw [upd_ne nps, upd_same, List.map_append]
          rfl
        · intro z hz
          rcases List.mem_append.mp hz with hz | hz
          · have e := hT.sh.at_ z hz
            rw [upd_ne (ne_of_none e hp0), upd_ne (ne_of e hT.sh.lst (by intro z; cases z))]
            exact s1 _ _ e
          · have e : z = (t, ⟨x, y⟩) := by simpa using hz
            subst e
            have ntp : t ≠ p := fun z => by
              rw [← z, upd_ne nts, upd_same] at hp
              cases hp
            rw [upd_ne ntp, upd_ne nts, upd_same]
        · rw [List.map_append, hT.zs_]
          rfl
      · intro b o e _ nb _
        rw [upd_ne (ne_of_none e hp0), upd_ne nb]
        exact s1 _ _ e
      · rw [upd_same, List.length_append, List.length_map, hT.slen]
        show some (HO.lst [V.int (((tt.ships.length + 1 : Nat) : Int) - 1)]) = some (HO.lst [V.int (tt.ships.length : Int)])
        rw [show (((tt.ships.length + 1 : Nat) : Int) - 1) = (tt.ships.length : Int) by omega]
end
end Ct
set_option Elab.async false
set_option maxRecDepth 100000
set_option maxHeartbeats 2000000
namespace Ct
open PySem PySem.Spec PyProof.Rows L2
open Km561 (Ship Timetable)
theorem fresh_upd {H : Hp} {q p : Addr} {o : HO} (h : upd H q o p = none) : p ≠ q ∧ H p = none := by
  have e : p ≠ q := fun z => by
    rw [z, upd_same] at h
    cases h
  exact ⟨e, by rw [upd_ne e] at h; exact h⟩
theorem getD_of {α : Type} {l : List α} {i : Nat} {x d : α} (h : l[i]? = some x) : l.getD i d = x := by
  rw [List.getD_eq_getElem?_getD, h]
  rfl
/-- the ship at i, as the list holds it -/
theorem TT.at_i {C : Addr} {H : Hp} {a sl dl : Addr} {zs : List (Addr × Ship)} {tt : Timetable} (T : TT C H a sl dl zs tt) {i : Nat} (h : i < tt.ships.length) : ∃ z, zs[i]? = some z ∧ z ∈ zs ∧ Km561.getShip tt i = z.2 ∧ H z.1 = some (.tup [nV z.2.arrival, nV z.2.weight]) := by
  have hi : i < zs.length := by rw [T.slen]; exact h
  have hz : zs[i]? = some zs[i] := List.getElem?_eq_getElem hi
  have hm : zs[i] ∈ zs := List.getElem_mem hi
  refine ⟨zs[i], hz, hm, ?_, T.sh.at_ _ hm⟩
  show tt.ships.getD i ⟨0, 1⟩ = _
  rw [← T.zs_]
  exact getD_of (by rw [List.getElem?_map, hz]; rfl)
theorem eraseIdx_map {α β : Type} (f : α → β) : ∀ (l : List α) (i : Nat), (l.map f).eraseIdx i = (l.eraseIdx i).map f
  | [], i => rfl
  | a :: l, 0 => rfl
  | a :: l, i + 1 => by
    show f a :: (l.map f).eraseIdx i = f a :: (l.eraseIdx i).map f
    rw [eraseIdx_map f l i]
theorem mem_set_of {α : Type} : ∀ {l : List α} {i : Nat} {x z : α}, z ∈ l.set i x → z = x ∨ z ∈ l
  | [], i, x, z, h => by simp at h
  | a :: l, 0, x, z, h => by
    rcases List.mem_cons.mp h with h | h
    · exact .inl h
    · exact .inr (List.mem_cons_of_mem _ h)
  | a :: l, i + 1, x, z, h => by
    rcases List.mem_cons.mp h with h | h
    · exact .inr (by rw [h]; exact List.mem_cons_self ..)
    · rcases mem_set_of h with h | h
      · exact .inl h
      · exact .inr (List.mem_cons_of_mem _ h)
section
variable {P : Program} {w : World} {K : PySem.W.Frag} {mg : Str → Option Value} {base : Heap} {C : Addr}
theorem def_remove_ship (D : DefF K mg "remove_ship" s_remove_ship) (T : Txt K mg C) (D1 : Def P w K mg base 1 "has_ship" ["instance", "ship"] (spHasShip C)) :
    Def P w K mg base 2 "remove_ship" ["instance", "ship"] (spOp C 1 (c1 .removeShip)) := by
  refine Def.mk' D sc_remove_ship (fun _ _ _ _ _ _ us hl => match us, hl with | [_, _], _ => rfl) (fun vs H Q E h => spOp_len h) (fun f cdv A outer s H vs Q E hr h => ?_)
  obtain ⟨a, sl, dl, zs, tt, tt', r, xs, rfl, hl, hT, hG, hst, k⟩ := h
  obtain ⟨x, rfl⟩ := len1 hl
  obtain ⟨dx, hi⟩ := hT.ins
  refine ⟨_, pss_cons (ps_if (pt_not (pt_val (pe_callD D1 hr (pa_cons (pv 0) (pa_cons (pv 1) pa_nil))))) (pss_one (ps_ret (pe_lst (pa_cons (pe_conF T.noSuch) pa_nil)))) pss_nil)
    (pss_cons (ps_expr (pe_bm PySem.F.plainAttrs_list PySem.F.slot_list_pop PySem.F.type_list_pop mt_popAt (pe_fld (pv 0) rfl) (pa_cons (pv 1) pa_nil)))
    (pss_one (ps_ret (pe_lst (pa_cons (pe_callB call_len_seq (by rfl) T.len PySem.boot_len (pa_cons (pe_fld (pv 0) rfl) pa_nil)) pa_nil))))), ?_⟩
  have hstep : Km561.step (some tt) (.removeShip x) = (some tt', r) := hst
  unfold Km561.step at hstep
  dsimp only at hstep
  refine ⟨_, rfl, _, rfl, a, sl, dl, zs, tt, x, rfl, hT, _, rfl, ?_⟩
  by_cases c : x < tt.ships.length
  · rw [decide_eq_true c]
    refine iteF ?_
    rw [if_neg (show ¬ Km561.shipCount tt ≤ x by show ¬ tt.ships.length ≤ x; omega)] at hstep
    cases hstep
    have h8 := hG.len
    obtain ⟨z, hz, _, _, _⟩ := hT.at_i c
    have hx : x < zs.length := by rw [hT.slen]; exact c
    refine ⟨_, rfl, a, C, dx, _, _, rfl, hi, T.cl, T.nS, lkS, .inl ⟨rfl, _, SqL.of hT.sh.lst⟩, _, rfl, sl, _, _, x, V.ref z.1, rfl, rfl, hT.sh.lst, by omega, by omega, (ixN_seq (ixN_nat (by rw [List.length_map]; exact hx))).1, by rw [List.getElem?_map, hz]; rfl, ?_⟩
    have ha2 : upd H sl (.lst ((zs.map (fun z => V.ref z.1)).eraseIdx x)) a = some (.ins C dx (iF sl dl)) := by
      rw [upd_ne (ne_of hi hT.sh.lst (by intro z; cases z))]
      exact hi
    refine ⟨_, rfl, a, C, dx, _, _, rfl, ha2, T.cl, T.nS, lkS, sl, _, rfl, .inl (SqL.of upd_same), by show 1 ≤ sizeLine; decide, fun p hp => ?_⟩
    obtain ⟨nps, hp0⟩ := fresh_upd hp
    refine k _ sl dl (zs.eraseIdx x) p ?_ (.inl rfl) (.inl rfl) ?_ ?_ hp0
    · refine hT.ships (fun b o e nb => ?_) ?_ ?_ ?_ rfl
      · rw [upd_ne (ne_of_none e hp0), upd_ne nb]
        exact e
      · rw [upd_ne (Ne.symm nps), upd_same, eraseIdx_map]
      · intro z hz
        have e := hT.sh.at_ z (List.mem_of_mem_eraseIdx hz)
        rw [upd_ne (ne_of_none e hp0), upd_ne (ne_of e hT.sh.lst (by intro z; cases z))]
        exact e
      · show (zs.eraseIdx x).map (·.2) = tt.ships.eraseIdx x
        rw [← eraseIdx_map, hT.zs_]
    · intro b o e _ nb _
      rw [upd_ne (ne_of_none e hp0), upd_ne nb]
      exact e
    · rw [upd_same, List.length_eraseIdx, if_pos (by rw [List.length_map]; exact hx), List.length_map, hT.slen]
      rfl
  · rw [decide_eq_false c]
    rw [if_pos (show Km561.shipCount tt ≤ x by show tt.ships.length ≤ x; omega)] at hstep
    cases hstep
    exact iteT ⟨by show 1 ≤ sizeLine; decide, fun p hp => k.one hT hp⟩
theorem def_set_arrival (D : DefF K mg "set_arrival" s_set_arrival) (T : Txt K mg C) (D1 : Def P w K mg base 1 "has_ship" ["instance", "ship"] (spHasShip C)) (D2 : Def P w K mg base 1 "is_hour" ["number"] spIsHour) :
    Def P w K mg base 2 "set_arrival" ["instance", "ship", "arrival"] (spOp C 2 (c2 .setArrival)) := by
  refine Def.mk' D sc_set_arrival (fun _ _ _ _ _ _ us hl => match us, hl with | [_, _, _], _ => rfl) (fun vs H Q E h => spOp_len h) (fun f cdv A outer s H vs Q E hr h => ?_)
  obtain ⟨a, sl, dl, zs, tt, tt', r, xs, rfl, hl, hT, hG, hst, k⟩ := h
  obtain ⟨x, y, rfl⟩ := len2 hl
  obtain ⟨dx, hi⟩ := hT.ins
  refine ⟨_, pss_cons (ps_if (pt_not (pt_val (pe_callD D1 hr (pa_cons (pv 0) (pa_cons (pv 1) pa_nil))))) (pss_one (ps_ret (pe_lst (pa_cons (pe_conF T.noSuch) pa_nil)))) pss_nil)
    (pss_cons (ps_if (pt_not (pt_val (pe_callD D2 hr (pa_cons (pv 2) pa_nil)))) (pss_one (ps_ret (pe_lst (pa_cons (pe_conF T.range_) pa_nil)))) pss_nil)
    (pss_cons (ps_set (i := 3) sc_set_arrival.nd rfl (Or.inl rfl) (pe_ix ix_list (pe_fld (pv 0) rfl) (pv 1) (fun _ _ => rfl)))
    (pss_cons (ps_asg (pe_tup (pa_cons (pv 2) (pa_cons (pe_ix ix_tup (pv 3) pe_int (fun _ _ => rfl)) pa_nil))) (pg_sub (pe_fld (pv 0) rfl) (pv 1) set_list))
    (pss_one (ps_ret (pe_lst (pa_cons (pe_ix ix_tup (pv 3) pe_int (fun _ _ => rfl)) pa_nil))))))), ?_⟩
  have hstep : Km561.step (some tt) (.setArrival x y) = (some tt', r) := hst
  unfold Km561.step at hstep
  dsimp only at hstep
  refine ⟨_, rfl, _, rfl, a, sl, dl, zs, tt, x, rfl, hT, _, rfl, ?_⟩
  by_cases c : x < tt.ships.length
  · rw [decide_eq_true c]
    refine iteF ?_
    rw [if_neg (show ¬ Km561.shipCount tt ≤ x by show ¬ tt.ships.length ≤ x; omega)] at hstep
    refine ⟨_, rfl, y, rfl, _, rfl, ?_⟩
    by_cases cy : y ≤ 48
    · rw [decide_eq_true cy]
      refine iteF ?_
      rw [if_neg (show ¬ Km561.lastHour < y by show ¬ 48 < y; omega)] at hstep
      cases hstep
      obtain ⟨z, hz, hm, eg, hzt⟩ := hT.at_i c
      have hx : x < zs.length := by rw [hT.slen]; exact c
      refine ⟨_, rfl, a, C, dx, _, _, rfl, hi, T.cl, T.nS, lkS, _, rfl, sl, _, _, V.ref z.1, rfl, rfl, SqL.of hT.sh.lst, atI_nat (by rw [List.getElem?_map, hz]; rfl), ?_⟩
      refine ⟨_, rfl, _, rfl, _, _, _, _, rfl, rfl, SqT.of hzt, atI_nat (j := 1) rfl, by show 2 ≤ sizeLine; decide, fun t ht => ?_⟩
      have s1 : Same H (upd H t (.tup [nV y, nV z.2.weight])) := same_upd ht
      have nts : t ≠ sl := fun z => by rw [z, hT.sh.lst] at ht; cases ht
      refine ⟨_, rfl, a, C, dx, _, _, rfl, s1 _ _ hi, T.cl, T.nS, lkS, _, rfl, sl, _, _, x, rfl, rfl, s1 _ _ hT.sh.lst, ixN_nat (by rw [List.length_map]; exact hx), ?_⟩
      have hzt2 : upd (upd H t (.tup [nV y, nV z.2.weight])) sl (.lst ((zs.map (fun z => V.ref z.1)).set x (.ref t))) z.1 = some (.tup [nV z.2.arrival, nV z.2.weight]) := by
        rw [upd_ne (ne_of hzt hT.sh.lst (by intro z; cases z))]
        exact s1 _ _ hzt
      refine ⟨_, rfl, _, _, _, _, rfl, rfl, SqT.of hzt2, atI_nat (j := 0) rfl, by show 1 ≤ sizeLine; decide, fun p hp => ?_⟩
      obtain ⟨nps, hp1⟩ := fresh_upd hp
      obtain ⟨npt, hp0⟩ := fresh_upd hp1
      have kp : ∀ b o, H b = some o → b ≠ sl → upd (upd (upd H t (.tup [nV y, nV z.2.weight])) sl (.lst ((zs.map (fun z => V.ref z.1)).set x (.ref t)))) p (.lst [nV z.2.arrival]) b = some o := fun b o e nb => by
        rw [upd_ne (ne_of_none e hp0), upd_ne nb]
        exact s1 _ _ e
      refine k _ sl dl (zs.set x (t, ⟨y, z.2.weight⟩)) p ?_ (.inl rfl) (.inl rfl) (fun b o e _ nb _ => kp b o e nb) ?_ hp0
      · refine hT.ships kp ?_ ?_ ?_ rfl
        · rw [upd_ne (Ne.symm nps), upd_same, List.map_set]
        · intro z' hz'
          rcases mem_set_of hz' with e | hz'
          · subst e
            rw [upd_ne (Ne.symm npt), upd_ne nts, upd_same]
          · have e := hT.sh.at_ z' hz'
            exact kp _ _ e (ne_of e hT.sh.lst (by intro z; cases z))
        · rw [List.map_set, hT.zs_]
          show _ = tt.ships.set x { Km561.getShip tt x with arrival := y }
          rw [eg]
      · rw [upd_same, eg]
        rfl
    · rw [decide_eq_false cy]
      rw [if_pos (show Km561.lastHour < y by show 48 < y; omega)] at hstep
      cases hstep
      exact iteT ⟨by show 1 ≤ sizeLine; decide, fun p hp => k.one hT hp⟩
  · rw [decide_eq_false c]
    rw [if_pos (show Km561.shipCount tt ≤ x by show tt.ships.length ≤ x; omega)] at hstep
    cases hstep
    exact iteT ⟨by show 1 ≤ sizeLine; decide, fun p hp => k.one hT hp⟩
theorem def_set_weight (D : DefF K mg "set_weight" s_set_weight) (T : Txt K mg C) (D1 : Def P w K mg base 1 "has_ship" ["instance", "ship"] (spHasShip C)) (D2 : Def P w K mg base 1 "is_weight" ["number"] spIsWeight) :
    Def P w K mg base 2 "set_weight" ["instance", "ship", "weight"] (spOp C 2 (c2 .setWeight)) := by
  refine Def.mk' D sc_set_weight (fun _ _ _ _ _ _ us hl => match us, hl with | [_, _, _], _ => rfl) (fun vs H Q E h => spOp_len h) (fun f cdv A outer s H vs Q E hr h => ?_)
  obtain ⟨a, sl, dl, zs, tt, tt', r, xs, rfl, hl, hT, hG, hst, k⟩ := h
  obtain ⟨x, y, rfl⟩ := len2 hl
  obtain ⟨dx, hi⟩ := hT.ins
  refine ⟨_, pss_cons (ps_if (pt_not (pt_val (pe_callD D1 hr (pa_cons (pv 0) (pa_cons (pv 1) pa_nil))))) (pss_one (ps_ret (pe_lst (pa_cons (pe_conF T.noSuch) pa_nil)))) pss_nil)
    (pss_cons (ps_if (pt_not (pt_val (pe_callD D2 hr (pa_cons (pv 2) pa_nil)))) (pss_one (ps_ret (pe_lst (pa_cons (pe_conF T.range_) pa_nil)))) pss_nil)
    (pss_cons (ps_set (i := 3) sc_set_weight.nd rfl (Or.inl rfl) (pe_ix ix_list (pe_fld (pv 0) rfl) (pv 1) (fun _ _ => rfl)))
    (pss_cons (ps_asg (pe_tup (pa_cons (pe_ix ix_tup (pv 3) pe_int (fun _ _ => rfl)) (pa_cons (pv 2) pa_nil))) (pg_sub (pe_fld (pv 0) rfl) (pv 1) set_list))
    (pss_one (ps_ret (pe_lst (pa_cons (pe_ix ix_tup (pv 3) pe_int (fun _ _ => rfl)) pa_nil))))))), ?_⟩
  have hstep : Km561.step (some tt) (.setWeight x y) = (some tt', r) := hst
  unfold Km561.step at hstep
  dsimp only at hstep
  refine ⟨_, rfl, _, rfl, a, sl, dl, zs, tt, x, rfl, hT, _, rfl, ?_⟩
  by_cases c : x < tt.ships.length
  · rw [decide_eq_true c]
    refine iteF ?_
    rw [if_neg (show ¬ Km561.shipCount tt ≤ x by show ¬ tt.ships.length ≤ x; omega)] at hstep
    refine ⟨_, rfl, y, rfl, _, rfl, ?_⟩
    by_cases cy : 1 ≤ y ∧ y ≤ 9
    · rw [decide_eq_true cy]
      refine iteF ?_
      rw [if_neg (show ¬ (y = 0 ∨ 9 < y) by omega)] at hstep
      cases hstep
      obtain ⟨z, hz, hm, eg, hzt⟩ := hT.at_i c
      have hx : x < zs.length := by rw [hT.slen]; exact c
      refine ⟨_, rfl, a, C, dx, _, _, rfl, hi, T.cl, T.nS, lkS, _, rfl, sl, _, _, V.ref z.1, rfl, rfl, SqL.of hT.sh.lst, atI_nat (by rw [List.getElem?_map, hz]; rfl), ?_⟩
      refine ⟨_, rfl, _, _, _, _, rfl, rfl, SqT.of hzt, atI_nat (j := 0) rfl, _, rfl, by show 2 ≤ sizeLine; decide, fun t ht => ?_⟩
      have s1 : Same H (upd H t (.tup [nV z.2.arrival, nV y])) := same_upd ht
      have nts : t ≠ sl := fun z => by rw [z, hT.sh.lst] at ht; cases ht
      refine ⟨_, rfl, a, C, dx, _, _, rfl, s1 _ _ hi, T.cl, T.nS, lkS, _, rfl, sl, _, _, x, rfl, rfl, s1 _ _ hT.sh.lst, ixN_nat (by rw [List.length_map]; exact hx), ?_⟩
      have hzt2 : upd (upd H t (.tup [nV z.2.arrival, nV y])) sl (.lst ((zs.map (fun z => V.ref z.1)).set x (.ref t))) z.1 = some (.tup [nV z.2.arrival, nV z.2.weight]) := by
        rw [upd_ne (ne_of hzt hT.sh.lst (by intro z; cases z))]
        exact s1 _ _ hzt
      refine ⟨_, rfl, _, _, _, _, rfl, rfl, SqT.of hzt2, atI_nat (j := 1) rfl, by show 1 ≤ sizeLine; decide, fun p hp => ?_⟩
      obtain ⟨nps, hp1⟩ := fresh_upd hp
      obtain ⟨npt, hp0⟩ := fresh_upd hp1
      have kp : ∀ b o, H b = some o → b ≠ sl → upd (upd (upd H t (.tup [nV z.2.arrival, nV y])) sl (.lst ((zs.map (fun z => V.ref z.1)).set x (.ref t)))) p (.lst [nV z.2.weight]) b = some o := fun b o e nb => by
        rw [upd_ne (ne_of_none e hp0), upd_ne nb]
        exact s1 _ _ e
      refine k _ sl dl (zs.set x (t, ⟨z.2.arrival, y⟩)) p ?_ (.inl rfl) (.inl rfl) (fun b o e _ nb _ => kp b o e nb) ?_ hp0
      · refine hT.ships kp ?_ ?_ ?_ rfl
        · rw [upd_ne (Ne.symm nps), upd_same, List.map_set]
        · intro z' hz'
          rcases mem_set_of hz' with e | hz'
          · subst e
            rw [upd_ne (Ne.symm npt), upd_ne nts, upd_same]
          · have e := hT.sh.at_ z' hz'
            exact kp _ _ e (ne_of e hT.sh.lst (by intro z; cases z))
        · rw [List.map_set, hT.zs_]
          show _ = tt.ships.set x { Km561.getShip tt x with weight := y }
          rw [eg]
      · rw [upd_same, eg]
        rfl
    · rw [decide_eq_false cy]
      rw [if_pos (show y = 0 ∨ 9 < y by omega)] at hstep
      cases hstep
      exact iteT ⟨by show 1 ≤ sizeLine; decide, fun p hp => k.one hT hp⟩
  · rw [decide_eq_false c]
    rw [if_pos (show Km561.shipCount tt ≤ x by show tt.ships.length ≤ x; omega)] at hstep
    cases hstep
    exact iteT ⟨by show 1 ≤ sizeLine; decide, fun p hp => k.one hT hp⟩
end
end Ct
set_option Elab.async false
set_option maxRecDepth 100000
set_option maxHeartbeats 2000000
/-! The specification's words over a timetable whose departures are in order. -/
namespace Ct
open Km561 (Ship Timetable)
theorem next_some (h : Nat) : ∀ (ds : List Nat) (b : Nat), (∀ d ∈ ds, b ≤ d) → ds.foldl (fun (best : Option Nat) (departure : Nat) => if departure < h then best else match best with
  | none => some departure
  | some other => some (min other departure)) (some b) = some b
  | [], b, _ => rfl
  | d :: r, b, hb => by
    rw [List.foldl_cons]
    have hd := hb d (List.mem_cons_self ..)
    have e : (if d < h then some b else some (min b d)) = some b := by
      by_cases c : d < h
      · rw [if_pos c]
      · rw [if_neg c, Nat.min_eq_left hd]
    show r.foldl _ (if d < h then some b else some (min b d)) = some b
    rw [e]
    exact next_some h r b fun x hx => hb x (List.mem_cons_of_mem _ hx)
theorem next_is (h : Nat) : ∀ {ds : List Nat}, ds.Pairwise (· < ·) → Km561.nextDeparture ds h = firstFrom ds h
  | [], _ => rfl
  | d :: r, hs => by
    have h1 := List.pairwise_cons.mp hs
    have ih := next_is h h1.2
    unfold Km561.nextDeparture firstFrom at ih ⊢
    rw [List.foldl_cons, List.find?_cons]
    by_cases c : d < h
    · rw [if_pos c, decide_eq_false (show ¬ h ≤ d by omega)]
      exact ih
    · rw [if_neg c, decide_eq_true (show h ≤ d by omega)]
      exact next_some h r d fun x hx => Nat.le_of_lt (h1.1 x hx)
theorem served_is {tt : Timetable} {ds : List Nat} (hs : ds.Pairwise (· < ·)) : Km561.allServed tt ds = tt.ships.all (served ds) := by
  unfold Km561.allServed
  congr 1
  funext s
  rw [next_is _ hs]
  rfl
theorem total_is {tt : Timetable} {ds : List Nat} (hs : ds.Pairwise (· < ·)) : Km561.totalWaiting tt ds = Km561.sum (tt.ships.map (wt ds)) := by
  unfold Km561.totalWaiting
  congr 2
  funext s
  rw [next_is _ hs]
  rfl
theorem long_is {tt : Timetable} (hs : tt.departures.Pairwise (· < ·)) : Km561.longestWaiting tt = long tt.ships tt.departures := by
  unfold Km561.longestWaiting long
  congr 1
  funext best i
  rw [next_is _ hs]
  rfl
/-! ### one departure more, one less -/
theorem mem_insertHour {x y : Nat} : ∀ {l : List Nat}, y ∈ Km561.insertHour x l ↔ y = x ∨ y ∈ l
  | [] => by
    show y ∈ [x] ↔ _
    simp
  | z :: r => by
    unfold Km561.insertHour
    by_cases c : x = z
    · rw [if_pos c]
      subst c
      simp
    · rw [if_neg c]
      by_cases c2 : x < z
      · rw [if_pos c2]
        simp
      · rw [if_neg c2, List.mem_cons, mem_insertHour (l := r), List.mem_cons]
        constructor
        · rintro (h | h | h)
          · exact .inr (.inl h)
          · exact .inl h
          · exact .inr (.inr h)
        · rintro (h | h | h)
          · exact .inr (.inl h)
          · exact .inl h
          · exact .inr (.inr h)
theorem sorted_insertHour {x : Nat} : ∀ {l : List Nat}, l.Pairwise (· < ·) → (Km561.insertHour x l).Pairwise (· < ·)
  | [], _ => List.pairwise_singleton _ _
  | z :: r, h => by
    have h1 := List.pairwise_cons.mp h
    unfold Km561.insertHour
    by_cases c : x = z
    · rw [if_pos c]
      exact h
    · rw [if_neg c]
      by_cases c2 : x < z
      · rw [if_pos c2]
        refine List.pairwise_cons.mpr ⟨fun y hy => ?_, h⟩
        rcases List.mem_cons.mp hy with e | hy
        · rw [e]
          exact c2
        · exact Nat.lt_trans c2 (h1.1 y hy)
      · rw [if_neg c2]
        refine List.pairwise_cons.mpr ⟨fun y hy => ?_, sorted_insertHour h1.2⟩
        rcases mem_insertHour.mp hy with e | hy
        · rw [e]
          omega
        · exact h1.1 y hy
theorem perm_insertHour {x : Nat} : ∀ {l : List Nat}, x ∉ l → (Km561.insertHour x l).Perm (x :: l)
  | [], _ => .refl _
  | z :: r, h => by
    unfold Km561.insertHour
    by_cases c : x = z
    · exact absurd (by rw [c]; exact List.mem_cons_self ..) h
    · rw [if_neg c]
      by_cases c2 : x < z
      · rw [if_pos c2]
      · rw [if_neg c2]
        exact ((perm_insertHour fun m => h (List.mem_cons_of_mem _ m)).cons z).trans (.swap x z r)
/-- two lists in order, with the same members as often, are one -/
theorem sorted_same : ∀ {l m : List Int}, l.Perm m → l.Pairwise (· ≤ ·) → m.Pairwise (· ≤ ·) → l = m
  | [], m, p, _, _ => (List.Perm.nil_eq p)
  | a :: l, [], p, _, _ => absurd p.length_eq (by simp)
  | a :: l, b :: m, p, hl, hm => by
    have h1 := List.pairwise_cons.mp hl
    have h2 := List.pairwise_cons.mp hm
    have e : a = b := by
      have ma : a ∈ b :: m := p.mem_iff.mp (List.mem_cons_self ..)
      have mb : b ∈ a :: l := p.mem_iff.mpr (List.mem_cons_self ..)
      have l1 : b ≤ a := by
        rcases List.mem_cons.mp ma with e | h
        · rw [e]
          exact Int.le_refl _
        · exact h2.1 a h
      have l2 : a ≤ b := by
        rcases List.mem_cons.mp mb with e | h
        · rw [e]
          exact Int.le_refl _
        · exact h1.1 b h
      omega
    subst e
    rw [sorted_same (List.perm_cons a |>.mp p) h1.2 h2.2]
theorem sorted_insert_is {ns : List Int} {ds : List Nat} {x : Nat} (h : x ∉ ds) (hs : ds.Pairwise (· < ·)) (p : ns.Perm ((ds.map fun d : Nat => (d : Int)) ++ [(x : Int)])) (q : ns.Pairwise (· ≤ ·)) : ns = (Km561.insertHour x ds).map fun d : Nat => (d : Int) := by
  refine sorted_same ?_ q ?_
  · have e := (perm_insertHour h).map (fun d => ((d : Nat) : Int))
    rw [List.map_cons] at e
    exact (p.trans List.perm_append_comm).trans e.symm
  · refine List.pairwise_map.mpr ((sorted_insertHour hs).imp fun {a b} hab => ?_)
    omega
/-- the departure at the place j, taken away -/
theorem erase_is {x : Nat} : ∀ {ds : List Nat} {j : Nat}, ds.Pairwise (· < ·) → ds[j]? = some x → ds.eraseIdx j = ds.filter fun y => y != x
  | [], j, _, h => by simp at h
  | d :: r, 0, hs, h => by
    have e : d = x := Option.some.inj h
    subst e
    have h1 := List.pairwise_cons.mp hs
    rw [List.filter_cons, if_neg (by simp)]
    show r = _
    refine (List.filter_eq_self.mpr fun y hy => ?_).symm
    have := h1.1 y hy
    simp
    omega
  | d :: r, j + 1, hs, h => by
    have h1 := List.pairwise_cons.mp hs
    have hm : x ∈ r := List.mem_of_getElem? (i := j) h
    have := h1.1 x hm
    rw [List.filter_cons, if_pos (by simp; omega)]
    show d :: r.eraseIdx j = _
    rw [erase_is h1.2 h]
end Ct
set_option Elab.async false
set_option maxRecDepth 100000
set_option maxHeartbeats 2000000
namespace Ct
open PySem PySem.Spec PyProof.Rows L2
open Km561 (Ship Timetable)
abbrev s_add_departure : Stmt := top 39
abbrev s_cancel_departure : Stmt := top 40
abbrev s_list_departures : Stmt := top 41
theorem sc_add_departure : FnScope ["instance", "hour"] ["instance", "hour"] (defScope s_add_departure) := ⟨rfl, rfl, rfl, by decide +kernel, rfl, by decide +kernel, by decide +kernel⟩
theorem sc_cancel_departure : FnScope ["instance", "hour"] ["instance", "hour"] (defScope s_cancel_departure) := ⟨rfl, rfl, rfl, by decide +kernel, rfl, by decide +kernel, by decide +kernel⟩
theorem sc_list_departures : FnScope ["instance"] ["instance"] (defScope s_list_departures) := ⟨rfl, rfl, rfl, by decide +kernel, rfl, by decide +kernel, by decide +kernel⟩
theorem in_nV (h : Nat) : ∀ ds : List Nat, inV (nV h) (ds.map nV) = ds.contains h
  | [] => rfl
  | d :: r => by
    have ih := in_nV h r
    unfold inV at ih ⊢
    rw [List.map_cons, List.any_cons, ih, List.contains_cons]
    congr 1
    show (decide _) = (h == d)
    by_cases c : h = d
    · subst c
      rw [beq_self_eq_true]
      exact decide_eq_true (by trivial)
    · rw [beq_eq_false_iff_ne.mpr c]
      refine decide_eq_false ?_
      intro e
      omega
theorem flat_nV : ∀ ds : List Nat, (ds.map nV).all flatV = true
  | [] => rfl
  | _ :: r => flat_nV r
theorem nV_int (ds : List Nat) : ds.map nV = (ds.map fun d : Nat => (d : Int)).map V.int := by
  rw [List.map_map]
  rfl
theorem TT.deps {C : Addr} {H : Hp} {a sl dl dl' : Addr} {zs : List (Addr × Ship)} {tt tt' : Timetable} (T : TT C H a sl dl zs tt) {H' : Hp} (k : ∀ b o, H b = some o → b ≠ a → b ≠ dl → H' b = some o)
    (hi : ∃ dx, H' a = some (.ins C dx (iF sl dl'))) (hd : H' dl' = some (.lst (tt'.departures.map nV))) (ne : sl ≠ dl') (e : tt'.ships = tt.ships) : TT C H' a sl dl' zs tt' := by
  obtain ⟨dx, h0⟩ := T.ins
  have n1 : sl ≠ a := ne_of T.sh.lst h0 (by intro z; cases z)
  refine ⟨hi, ⟨k _ _ T.sh.lst n1 T.ne, fun z hz => ?_⟩, by rw [T.zs_, e], hd, ne⟩
  have q := T.sh.at_ z hz
  exact k _ _ q (ne_of q h0 (by intro z; cases z)) (ne_of q T.dep (by intro z; cases z))
section
variable {P : Program} {w : World} {K : PySem.W.Frag} {mg : Str → Option Value} {base : Heap} {C : Addr}
theorem def_add_departure (D : DefF K mg "add_departure" s_add_departure) (T : Txt K mg C) (D1 : Def P w K mg base 1 "is_hour" ["number"] spIsHour) :
    Def P w K mg base 2 "add_departure" ["instance", "hour"] (spOp C 1 (c1 .addDeparture)) := by
  refine Def.mk' D sc_add_departure (fun _ _ _ _ _ _ us hl => match us, hl with | [_, _], _ => rfl) (fun vs H Q E h => spOp_len h) (fun f cdv A outer s H vs Q E hr h => ?_)
  obtain ⟨a, sl, dl, zs, tt, tt', r, xs, rfl, hl, hT, hG, hst, k⟩ := h
  obtain ⟨x, rfl⟩ := len1 hl
  obtain ⟨dx, hi⟩ := hT.ins
  refine ⟨_, pss_cons (ps_if (pt_not (pt_val (pe_callD D1 hr (pa_cons (pv 1) pa_nil)))) (pss_one (ps_ret (pe_lst (pa_cons (pe_conF T.range_) pa_nil)))) pss_nil)
    (pss_cons (ps_if (pt_cmpR op_in_seq (pv 1) (pe_fld (pv 0) rfl) (by rfl)) (pss_one (ps_ret (pe_lst (pa_cons (pe_conF T.already) pa_nil)))) pss_nil)
    (pss_cons (ps_if (pt_cmpR op_ge (pe_callB call_len_seq (by rfl) T.len PySem.boot_len (pa_cons (pe_fld (pv 0) rfl) pa_nil)) (pe_conF T.mostD) (nomark _)) (pss_one (ps_ret (pe_lst (pa_cons (pe_conF T.full) pa_nil)))) pss_nil)
    (pss_cons (ps_fld (pv 0) (pe_callB cr_sortedI (by rfl) T.sorted (by decide +kernel) (pa_cons (pe_op op_cat (pe_fld (pv 0) rfl) (pe_lst (pa_cons (pv 1) pa_nil))) pa_nil)) rfl)
    (pss_one (ps_ret (pe_lst (pa_cons (pe_callB call_len_seq (by rfl) T.len PySem.boot_len (pa_cons (pe_fld (pv 0) rfl) pa_nil)) pa_nil))))))), ?_⟩
  have hstep : Km561.step (some tt) (.addDeparture x) = (some tt', r) := hst
  unfold Km561.step at hstep
  dsimp only at hstep
  refine ⟨_, rfl, x, rfl, _, rfl, ?_⟩
  by_cases cx : x ≤ 48
  · rw [decide_eq_true cx]
    refine iteF ?_
    rw [if_neg (show ¬ Km561.lastHour < x by show ¬ 48 < x; omega)] at hstep
    refine ⟨_, rfl, _, rfl, a, C, dx, _, _, rfl, hi, T.cl, T.nD, lkD, dl, _, rfl, .inl (SqL.of hT.dep), rfl, flat_nV _, _, rfl, ?_⟩
    rw [if_neg (by decide : ¬ false = true), in_nV]
    by_cases ci : tt.departures.contains x = true
    · rw [ci]
      rw [if_pos ci] at hstep
      cases hstep
      exact iteT ⟨by show 1 ≤ sizeLine; decide, fun p hp => k.one hT hp⟩
    · rw [Bool.not_eq_true] at ci
      rw [ci]
      refine iteF ?_
      rw [if_neg (by rw [ci]; exact Bool.noConfusion)] at hstep
      have hd8 := hG.dlen
      refine ⟨_, rfl, a, C, dx, _, _, rfl, hi, T.cl, T.nD, lkD, dl, _, rfl, .inl (SqL.of hT.dep), _, _, rfl, rfl, _, rfl, ?_⟩
      rw [List.length_map]
      refine ite2 (fun c => ?_) (fun c => ?_)
      · have c' := of_decide_eq_true c
        rw [if_pos (show Km561.maxShips ≤ tt.departures.length by show 8 ≤ tt.departures.length; omega)] at hstep
        cases hstep
        exact ⟨by show 1 ≤ sizeLine; decide, fun p hp => k.one hT hp⟩
      · have c' : ¬ 8 ≤ tt.departures.length := fun z => c (decide_eq_true (show (tt.departures.length : Int) ≥ 8 by omega))
        rw [if_neg (show ¬ Km561.maxShips ≤ tt.departures.length from c')] at hstep
        cases hstep
        have nx : x ∉ tt.departures := fun m => by
          rw [List.contains_iff_mem.mpr m] at ci
          cases ci
        refine ⟨_, rfl, a, C, dx, _, _, rfl, hi, T.cl, T.nD, lkD, _, rfl, by show 1 ≤ sizeLine; decide, fun q1 hq1 => ?_⟩
        have s1 : Same H (upd H q1 (.lst [nV x])) := same_upd hq1
        refine ⟨dl, q1, _, _, rfl, rfl, s1 _ _ hT.dep, upd_same, ?_, fun q2 hq2 => ?_⟩
        · rw [List.length_map]
          exact Nat.le_trans (show tt.departures.length + 1 ≤ 9 by omega) (by show 9 ≤ sizeLine; decide)
        have s2 := Same.upd (o := .lst (tt.departures.map nV ++ [nV x])) s1 hq2
        have el : tt.departures.map nV ++ [nV x] = ((tt.departures.map fun d : Nat => (d : Int)) ++ [(x : Int)]).map V.int := by
          rw [List.map_append, nV_int]
          rfl
        refine ⟨q2, _, rfl, SqL.of (by rw [← el]; exact upd_same), fun ns q3 hp hq hq3 => ?_⟩
        have en := sorted_insert_is nx hG.srt hp hq
        subst en
        rw [← nV_int]
        have s3 := Same.upd (o := .lst ((Km561.insertHour x tt.departures).map nV)) s2 hq3
        refine ⟨_, rfl, a, C, dx, _, rfl, s3 _ _ hi, T.cl, T.nD, by show 2 < 1000; decide, ?_⟩
        rw [putD]
        have n3a : q3 ≠ a := fun z => by rw [z, s2 _ _ hi] at hq3; cases hq3
        have n3s : sl ≠ q3 := fun z => by rw [← z, s2 _ _ hT.sh.lst] at hq3; cases hq3
        have h3 : upd (upd (upd (upd H q1 (.lst [nV x])) q2 (.lst (tt.departures.map nV ++ [nV x]))) q3 (.lst ((Km561.insertHour x tt.departures).map nV))) a (.ins C dx (iF sl q3)) q3 = some (.lst ((Km561.insertHour x tt.departures).map nV)) := by
          rw [upd_ne n3a, upd_same]
        refine ⟨_, rfl, a, C, dx, _, _, rfl, upd_same, T.cl, T.nD, lkD, q3, _, rfl, .inl (SqL.of h3), by show 1 ≤ sizeLine; decide, fun p hp => ?_⟩
        obtain ⟨npa, hp3⟩ := fresh_upd hp
        have hp0 := s3.free hp3
        have h30 : H q3 = none := s2.free hq3
        have np3 : q3 ≠ p := fun z => by rw [← z, upd_same] at hp3; cases hp3
        have kp : ∀ b o, H b = some o → b ≠ a → upd (upd (upd (upd (upd H q1 (.lst [nV x])) q2 (.lst (tt.departures.map nV ++ [nV x]))) q3 (.lst ((Km561.insertHour x tt.departures).map nV))) a (.ins C dx (iF sl q3))) p (.lst [.int ((((Km561.insertHour x tt.departures).map nV).length : Nat) : Int)]) b = some o := fun b o e nb => by
          rw [upd_ne (ne_of_none e hp0), upd_ne nb]
          exact s3 _ _ e
        refine k _ sl q3 zs p ?_ (.inl rfl) (.inr h30) (fun b o e nb _ _ => kp b o e nb) ?_ hp0
        · refine hT.deps (fun b o e nb _ => kp b o e nb) ⟨dx, ?_⟩ ?_ n3s rfl
          · rw [upd_ne (Ne.symm npa), upd_same]
          · rw [upd_ne np3]
            exact h3
        · rw [upd_same, List.length_map, (perm_insertHour nx).length_eq]
          rfl
  · rw [decide_eq_false cx]
    rw [if_pos (show Km561.lastHour < x by show 48 < x; omega)] at hstep
    cases hstep
    exact iteT ⟨by show 1 ≤ sizeLine; decide, fun p hp => k.one hT hp⟩
theorem def_cancel_departure (D : DefF K mg "cancel_departure" s_cancel_departure) (T : Txt K mg C) :
    Def P w K mg base 1 "cancel_departure" ["instance", "hour"] (spOp C 1 (c1 .cancelDeparture)) := by
  refine Def.mk' D sc_cancel_departure (fun _ _ _ _ _ _ us hl => match us, hl with | [_, _], _ => rfl) (fun vs H Q E h => spOp_len h) (fun f cdv A outer s H vs Q E hr h => ?_)
  obtain ⟨a, sl, dl, zs, tt, tt', r, xs, rfl, hl, hT, hG, hst, k⟩ := h
  obtain ⟨x, rfl⟩ := len1 hl
  obtain ⟨dx, hi⟩ := hT.ins
  refine ⟨_, pss_cons (ps_if (pt_cmpR op_notIn_seq (pv 1) (pe_fld (pv 0) rfl) (by rfl)) (pss_one (ps_ret (pe_lst (pa_cons (pe_conF T.noSuch) pa_nil)))) pss_nil)
    (pss_cons (ps_expr (pe_bm PySem.F.plainAttrs_list PySem.F.slot_list_remove PySem.F.type_list_remove mt_remove (pe_fld (pv 0) rfl) (pa_cons (pv 1) pa_nil)))
    (pss_one (ps_ret (pe_lst (pa_cons (pe_callB call_len_seq (by rfl) T.len PySem.boot_len (pa_cons (pe_fld (pv 0) rfl) pa_nil)) pa_nil))))), ?_⟩
  have hstep : Km561.step (some tt) (.cancelDeparture x) = (some tt', r) := hst
  unfold Km561.step at hstep
  dsimp only at hstep
  refine ⟨_, rfl, _, rfl, a, C, dx, _, _, rfl, hi, T.cl, T.nD, lkD, dl, _, rfl, .inl (SqL.of hT.dep), rfl, flat_nV _, _, rfl, ?_⟩
  rw [if_pos (by rfl : true = true), in_nV]
  by_cases ci : tt.departures.contains x = true
  · rw [ci]
    refine iteF ?_
    rw [if_neg (by rw [ci]; exact Bool.noConfusion)] at hstep
    cases hstep
    have hm : x ∈ tt.departures := List.contains_iff_mem.mp ci
    obtain ⟨j, hj⟩ := List.mem_iff_getElem?.mp hm
    have hjl : j < tt.departures.length := (List.getElem?_eq_some_iff.mp hj).1
    have hd2 : H dl = some (.lst ((tt.departures.map fun d : Nat => (d : Int)).map V.int)) := by
      rw [← nV_int]
      exact hT.dep
    refine ⟨_, rfl, a, C, dx, _, _, rfl, hi, T.cl, T.nD, lkD, .inl ⟨rfl, _, SqL.of hT.dep⟩, _, rfl, dl, _, (x : Int), j, rfl, rfl, hd2, by rw [List.getElem?_map, hj]; rfl, fun m hmj e => ?_, ?_⟩
    · obtain ⟨y, hy, ey⟩ := map_at e
      have hml : m < tt.departures.length := by omega
      have q := List.pairwise_iff_getElem.mp hG.srt m j hml hjl hmj
      rw [List.getElem?_eq_getElem hml] at hy
      rw [List.getElem?_eq_getElem hjl] at hj
      cases hy
      cases hj
      omega
    rw [eraseIdx_map, ← nV_int, erase_is hG.srt hj]
    have nad : a ≠ dl := ne_of hi hT.dep (by intro z; cases z)
    refine ⟨_, rfl, a, C, dx, _, _, rfl, by rw [upd_ne nad]; exact hi, T.cl, T.nD, lkD, dl, _, rfl, .inl (SqL.of upd_same), by show 1 ≤ sizeLine; decide, fun p hp => ?_⟩
    obtain ⟨npd, hp0⟩ := fresh_upd hp
    refine k _ sl dl zs p ?_ (.inl rfl) (.inl rfl) (fun b o e _ _ nb => ?_) ?_ hp0
    · refine hT.deps (fun b o e _ nb => ?_) ⟨dx, ?_⟩ ?_ hT.ne rfl
      · rw [upd_ne (ne_of_none e hp0), upd_ne nb]
        exact e
      · rw [upd_ne (ne_of_none hi hp0), upd_ne nad]
        exact hi
      · rw [upd_ne (Ne.symm npd), upd_same]
    · rw [upd_ne (ne_of_none e hp0), upd_ne nb]
      exact e
    · rw [upd_same, List.length_map, ← erase_is hG.srt hj, List.length_eraseIdx, if_pos hjl]
      rfl
  · rw [Bool.not_eq_true] at ci
    rw [ci]
    rw [if_pos ci] at hstep
    cases hstep
    exact iteT ⟨by show 1 ≤ sizeLine; decide, fun p hp => k.one hT hp⟩
theorem def_list_departures (D : DefF K mg "list_departures" s_list_departures) (T : Txt K mg C) :
    Def P w K mg base 1 "list_departures" ["instance"] (spOp C 0 (c0 .listDepartures)) := by
  refine Def.mk' D sc_list_departures (fun _ _ _ _ _ _ us hl => match us, hl with | [_], _ => rfl) (fun vs H Q E h => spOp_len h) (fun f cdv A outer s H vs Q E hr h => ?_)
  obtain ⟨a, sl, dl, zs, tt, tt', r, xs, rfl, hl, hT, hG, hst, k⟩ := h
  obtain rfl := len0 hl
  obtain ⟨dx, hi⟩ := hT.ins
  refine ⟨_, pss_one (ps_ret (pe_op op_cat (pe_lst (pa_cons (pe_callB call_len_seq (by rfl) T.len PySem.boot_len (pa_cons (pe_fld (pv 0) rfl) pa_nil)) pa_nil)) (pe_fld (pv 0) rfl))), ?_⟩
  have hstep : Km561.step (some tt) .listDepartures = (some tt', r) := hst
  unfold Km561.step at hstep
  dsimp only at hstep
  cases hstep
  refine ⟨_, rfl, a, C, dx, _, _, rfl, hi, T.cl, T.nD, lkD, dl, _, rfl, .inl (SqL.of hT.dep), by show 1 ≤ sizeLine; decide, fun q1 hq1 => ?_⟩
  have s1 : Same H (upd H q1 (.lst [.int (((tt.departures.map nV).length : Nat) : Int)])) := same_upd hq1
  refine ⟨_, rfl, a, C, dx, _, _, rfl, s1 _ _ hi, T.cl, T.nD, lkD, q1, dl, _, _, rfl, rfl, upd_same, s1 _ _ hT.dep, ?_, fun p hp => ?_⟩
  · rw [List.length_map]
    have := hG.dlen
    exact Nat.le_trans (show 1 + tt.departures.length ≤ 9 by omega) (by show 9 ≤ sizeLine; decide)
  refine k.same hT (Same.upd s1 hp) ?_ (s1.free hp)
  rw [upd_same, List.length_map, nV_int]
  rfl
end
end Ct
set_option Elab.async false
set_option maxRecDepth 100000
set_option maxHeartbeats 2000000
/-! The ranges that the document grants are kept by every call. -/
namespace Ct
open Km561 (Ship Timetable)
theorem fold_keeps {α β : Type} {f : β → α → β} {P : β → Prop} : ∀ {l : List α} {b : β}, P b → (∀ b, P b → ∀ a ∈ l, P (f b a)) → P (l.foldl f b)
  | [], _, h, _ => h
  | a :: r, b, h, hs => fold_keeps (l := r) (b := f b a) (hs b h a (List.mem_cons_self ..)) fun b' h' x hx => hs b' h' x (List.mem_cons_of_mem _ hx)
/-! ### the different arrival hours -/
theorem len_insertHour (x : Nat) : ∀ l : List Nat, (Km561.insertHour x l).length ≤ l.length + 1
  | [] => Nat.le_refl _
  | z :: r => by
    have ih := len_insertHour x r
    unfold Km561.insertHour
    by_cases c : x = z
    · rw [if_pos c]
      omega
    · rw [if_neg c]
      by_cases c2 : x < z
      · rw [if_pos c2]
        simp
      · rw [if_neg c2, List.length_cons, List.length_cons]
        omega
theorem hours_fold : ∀ (ss : List Ship) (hs : List Nat), hs.Pairwise (· < ·) → (ss.foldl (fun (hours : List Nat) (ship : Ship) => Km561.insertHour ship.arrival hours) hs).Pairwise (· < ·) ∧
    (∀ y, y ∈ ss.foldl (fun (hours : List Nat) (ship : Ship) => Km561.insertHour ship.arrival hours) hs ↔ y ∈ hs ∨ ∃ s ∈ ss, s.arrival = y) ∧
    (ss.foldl (fun (hours : List Nat) (ship : Ship) => Km561.insertHour ship.arrival hours) hs).length ≤ hs.length + ss.length
  | [], hs, h => ⟨h, fun y => by simp, by simp⟩
  | s :: r, hs, h => by
    obtain ⟨h1, h2, h3⟩ := hours_fold r (Km561.insertHour s.arrival hs) (sorted_insertHour h)
    have h4 := len_insertHour s.arrival hs
    rw [List.foldl_cons]
    refine ⟨h1, fun y => ?_, ?_⟩
    · rw [h2, mem_insertHour]
      constructor
      · rintro ((h | h) | ⟨s', hs', e⟩)
        · exact .inr ⟨s, List.mem_cons_self .., h.symm⟩
        · exact .inl h
        · exact .inr ⟨s', List.mem_cons_of_mem _ hs', e⟩
      · rintro (h | ⟨s', hs', e⟩)
        · exact .inl (.inr h)
        · rcases List.mem_cons.mp hs' with q | q
          · exact .inl (.inl (by rw [← e, q]))
          · exact .inr ⟨s', q, e⟩
    · rw [List.length_cons]
      omega
theorem hours_sorted (tt : Timetable) : (Km561.arrivalHours tt).Pairwise (· < ·) := (hours_fold tt.ships [] .nil).1
theorem mem_hours {tt : Timetable} {y : Nat} : y ∈ Km561.arrivalHours tt ↔ ∃ s ∈ tt.ships, s.arrival = y := by
  have h := (hours_fold tt.ships [] .nil).2.1 y
  refine h.trans ⟨fun q => ?_, .inr⟩
  rcases q with q | q
  · cases q
  · exact q
theorem hours_len (tt : Timetable) : (Km561.arrivalHours tt).length ≤ tt.ships.length := by
  have h := (hours_fold tt.ships [] .nil).2.2
  rw [List.length_nil, Nat.zero_add] at h
  exact h
/-! ### the optimum's form -/
theorem opt_done {tt : Timetable} {hours : List Nat} {c i : Nat} (h : hours.length ≤ i) : Km561.optimalFrom tt hours c i = some (0, []) := by
  cases c with
  | zero =>
    unfold Km561.optimalFrom
    rw [if_pos h]
  | succ c =>
    unfold Km561.optimalFrom
    rw [if_pos h]
theorem opt_zero {tt : Timetable} {hours : List Nat} {i : Nat} (h : ¬ hours.length ≤ i) : Km561.optimalFrom tt hours 0 i = none := by
  unfold Km561.optimalFrom
  rw [if_neg h]
/-- the choice of the first departure j hours behind the first hour that is not served -/
def choice (tt : Timetable) (hours : List Nat) (c i : Nat) (best : Option (Nat × List Nat)) (j : Nat) : Option (Nat × List Nat) :=
  match Km561.optimalFrom tt hours c (i + j + 1) with
  | none => best
  | some rest => match best with
    | none => some (Km561.waitingUntil tt (hours.getD i 0) (hours.getD (i + j) 0) + rest.1, hours.getD (i + j) 0 :: rest.2)
    | some other => if Km561.waitingUntil tt (hours.getD i 0) (hours.getD (i + j) 0) + rest.1 < other.1 then some (Km561.waitingUntil tt (hours.getD i 0) (hours.getD (i + j) 0) + rest.1, hours.getD (i + j) 0 :: rest.2) else some other
theorem opt_succ {tt : Timetable} {hours : List Nat} {c i : Nat} (h : ¬ hours.length ≤ i) : Km561.optimalFrom tt hours (c + 1) i = (List.range (hours.length - i)).foldl (choice tt hours c i) none := by
  conv => lhs; unfold Km561.optimalFrom
  rw [if_neg h]
  rfl
/-- what an optimum is made of -/
theorem opt_made {tt : Timetable} {hours : List Nat} {c i : Nat} {r : Nat × List Nat} (h : ¬ hours.length ≤ i) (e : Km561.optimalFrom tt hours (c + 1) i = some r) :
    ∃ j rest, i + j < hours.length ∧ Km561.optimalFrom tt hours c (i + j + 1) = some rest ∧ r = (Km561.waitingUntil tt (hours.getD i 0) (hours.getD (i + j) 0) + rest.1, hours.getD (i + j) 0 :: rest.2) := by
  rw [opt_succ h] at e
  have q := fold_keeps (f := choice tt hours c i) (l := List.range (hours.length - i)) (b := none) (P := fun b => ∀ r, b = some r → ∃ j rest, i + j < hours.length ∧ Km561.optimalFrom tt hours c (i + j + 1) = some rest ∧ r = (Km561.waitingUntil tt (hours.getD i 0) (hours.getD (i + j) 0) + rest.1, hours.getD (i + j) 0 :: rest.2)) (fun r h => by cases h) ?_
  · exact q r e
  · intro b hb j hj r hr
    have hj' : j < hours.length - i := List.mem_range.mp hj
    unfold choice at hr
    cases eo : Km561.optimalFrom tt hours c (i + j + 1) with
    | none =>
      rw [eo] at hr
      exact hb r hr
    | some rest =>
      rw [eo] at hr
      cases b with
      | none =>
        cases hr
        exact ⟨j, rest, by omega, eo, rfl⟩
      | some o =>
        dsimp only at hr
        split at hr
        · cases hr
          exact ⟨j, rest, by omega, eo, rfl⟩
        · exact hb r hr
theorem ite_some {α : Type} {p : Prop} [Decidable p] {a b : α} : ∃ r, (if p then some a else some b) = some r := by
  by_cases c : p
  · exact ⟨a, if_pos c⟩
  · exact ⟨b, if_neg c⟩
/-- there is an optimum where one convoy at least may leave -/
theorem opt_some {tt : Timetable} {hours : List Nat} {c : Nat} (i : Nat) : ∃ r, Km561.optimalFrom tt hours (c + 1) i = some r := by
  by_cases h : hours.length ≤ i
  · exact ⟨_, opt_done h⟩
  · rw [opt_succ h]
    obtain ⟨n, hn⟩ : ∃ n, hours.length - i = n + 1 := ⟨hours.length - i - 1, by omega⟩
    rw [hn, List.range_succ, List.foldl_append]
    show ∃ r, choice tt hours c i ((List.range n).foldl (choice tt hours c i) none) n = some r
    generalize (List.range n).foldl (choice tt hours c i) none = b
    have e : Km561.optimalFrom tt hours c (i + n + 1) = some (0, []) := opt_done (by omega)
    unfold choice
    rw [e]
    cases b with
    | none => exact ⟨_, rfl⟩
    | some o => exact ite_some
theorem getD_mem {l : List Nat} {i : Nat} (h : i < l.length) : l.getD i 0 ∈ l := by
  rw [List.getD_eq_getElem?_getD, List.getElem?_eq_getElem h]
  exact List.getElem_mem h
theorem getD_lt {l : List Nat} (hs : l.Pairwise (· < ·)) {i j : Nat} (h : i < j) (hj : j < l.length) : l.getD i 0 < l.getD j 0 := by
  rw [List.getD_eq_getElem?_getD, List.getD_eq_getElem?_getD, List.getElem?_eq_getElem hj, List.getElem?_eq_getElem (by omega)]
  exact List.pairwise_iff_getElem.mp hs i j (by omega) hj h
/-- an optimum's list: in order, hours of the list from i on, no more than c -/
theorem opt_list {tt : Timetable} {hours : List Nat} (hs : hours.Pairwise (· < ·)) : ∀ (c i : Nat) (r : Nat × List Nat), Km561.optimalFrom tt hours c i = some r →
    r.2.Pairwise (· < ·) ∧ r.2.length ≤ c ∧ ∀ d ∈ r.2, ∃ k, i ≤ k ∧ k < hours.length ∧ d = hours.getD k 0
  | 0, i, r, e => by
    by_cases h : hours.length ≤ i
    · rw [opt_done h] at e
      cases e
      exact ⟨.nil, Nat.le_refl _, fun d hd => by cases hd⟩
    · rw [opt_zero h] at e
      cases e
  | c + 1, i, r, e => by
    by_cases h : hours.length ≤ i
    · rw [opt_done h] at e
      cases e
      exact ⟨.nil, Nat.zero_le _, fun d hd => by cases hd⟩
    · obtain ⟨j, rest, hj, eo, rfl⟩ := opt_made h e
      obtain ⟨h1, h2, h3⟩ := opt_list hs c (i + j + 1) rest eo
      refine ⟨List.pairwise_cons.mpr ⟨fun d hd => ?_, h1⟩, by rw [List.length_cons]; omega, fun d hd => ?_⟩
      · obtain ⟨k, k1, k2, rfl⟩ := h3 d hd
        exact getD_lt hs (by omega) k2
      · rcases List.mem_cons.mp hd with q | q
        · exact ⟨i + j, by omega, hj, q⟩
        · obtain ⟨k, k1, k2, k3⟩ := h3 d q
          exact ⟨k, by omega, k2, k3⟩
theorem optimal_some (tt : Timetable) {k : Nat} (h : k ≠ 0) : ∃ r, Km561.optimal tt k = some r := by
  obtain ⟨c, rfl⟩ := Nat.exists_eq_succ_of_ne_zero h
  exact opt_some 0
theorem optimal_list {tt : Timetable} {k : Nat} {r : Nat × List Nat} (e : Km561.optimal tt k = some r) : r.2.Pairwise (· < ·) ∧ r.2.length ≤ k ∧ ∀ d ∈ r.2, d ∈ Km561.arrivalHours tt := by
  obtain ⟨h1, h2, h3⟩ := opt_list (hours_sorted tt) k 0 r e
  exact ⟨h1, h2, fun d hd => by
    obtain ⟨j, _, hj, q⟩ := h3 d hd
    rw [q]
    exact getD_mem hj⟩
/-! ### each call keeps the ranges -/
theorem good_new : Good ⟨[], []⟩ := ⟨by simp, by simp, by simp, by simp, by simp, .nil⟩
theorem step_good {tt : Timetable} (G : Good tt) (c : Km561.Call) : ∃ tt' r, Km561.step (some tt) c = (some tt', r) ∧ Good tt' := by
  have same : ∀ r, ∃ tt' r', ((some tt, r) : Km561.State × Km561.Result) = (some tt', r') ∧ Good tt' := fun r => ⟨tt, r, rfl, G⟩
  cases c with
  | create => exact ⟨_, _, rfl, good_new⟩
  | addShip x y =>
    unfold Km561.step
    dsimp only
    by_cases c : Km561.isValidShip x y = false
    · rw [if_pos c]
      exact same _
    · rw [if_neg c]
      by_cases c2 : Km561.maxShips ≤ Km561.shipCount tt
      · rw [if_pos c2]
        exact same _
      · rw [if_neg c2]
        have c1 : x ≤ 48 ∧ 1 ≤ y ∧ y ≤ 9 := by
          rw [Bool.not_eq_false] at c
          exact of_decide_eq_true c
        have c3 : ¬ 8 ≤ tt.ships.length := c2
        refine ⟨_, _, rfl, ?_, fun s hs => ?_, fun s hs => ?_, G.dlen, G.dhr, G.srt⟩
        · show (tt.ships ++ [_]).length ≤ 8
          rw [List.length_append]
          show tt.ships.length + 1 ≤ 8
          omega
        · rcases List.mem_append.mp (show s ∈ tt.ships ++ [⟨x, y⟩] from hs) with h | h
          · exact G.arr s h
          · rw [List.mem_singleton.mp h]
            exact c1.1
        · rcases List.mem_append.mp (show s ∈ tt.ships ++ [⟨x, y⟩] from hs) with h | h
          · exact G.wgt s h
          · rw [List.mem_singleton.mp h]
            exact c1.2
  | removeShip i =>
    unfold Km561.step
    dsimp only
    by_cases c : Km561.shipCount tt ≤ i
    · rw [if_pos c]
      exact same _
    · rw [if_neg c]
      refine ⟨_, _, rfl, ?_, fun s hs => G.arr s (List.mem_of_mem_eraseIdx hs), fun s hs => G.wgt s (List.mem_of_mem_eraseIdx hs), G.dlen, G.dhr, G.srt⟩
      exact Nat.le_trans (List.length_eraseIdx_le _ _) G.len
  | setArrival i y =>
    unfold Km561.step
    dsimp only
    by_cases c : Km561.shipCount tt ≤ i
    · rw [if_pos c]
      exact same _
    · rw [if_neg c]
      by_cases c2 : Km561.lastHour < y
      · rw [if_pos c2]
        exact same _
      · rw [if_neg c2]
        have c' : i < tt.ships.length := Nat.lt_of_not_le c
        have c3 : ¬ 48 < y := c2
        have hm : Km561.getShip tt i ∈ tt.ships := by
          unfold Km561.getShip
          rw [List.getD_eq_getElem?_getD, List.getElem?_eq_getElem c']
          exact List.getElem_mem c'
        refine ⟨_, _, rfl, ?_, fun s hs => ?_, fun s hs => ?_, G.dlen, G.dhr, G.srt⟩
        · show (tt.ships.set _ _).length ≤ 8
          rw [List.length_set]
          exact G.len
        · rcases mem_set_of hs with h | h
          · rw [h]
            show y ≤ 48
            omega
          · exact G.arr s h
        · rcases mem_set_of hs with h | h
          · rw [h]
            exact G.wgt (Km561.getShip tt i) hm
          · exact G.wgt s h
  | setWeight i y =>
    unfold Km561.step
    dsimp only
    by_cases c : Km561.shipCount tt ≤ i
    · rw [if_pos c]
      exact same _
    · rw [if_neg c]
      by_cases c2 : y = 0 ∨ 9 < y
      · rw [if_pos c2]
        exact same _
      · rw [if_neg c2]
        have c' : i < tt.ships.length := Nat.lt_of_not_le c
        have hm : Km561.getShip tt i ∈ tt.ships := by
          unfold Km561.getShip
          rw [List.getD_eq_getElem?_getD, List.getElem?_eq_getElem c']
          exact List.getElem_mem c'
        refine ⟨_, _, rfl, ?_, fun s hs => ?_, fun s hs => ?_, G.dlen, G.dhr, G.srt⟩
        · show (tt.ships.set _ _).length ≤ 8
          rw [List.length_set]
          exact G.len
        · rcases mem_set_of hs with h | h
          · rw [h]
            exact G.arr (Km561.getShip tt i) hm
          · exact G.arr s h
        · rcases mem_set_of hs with h | h
          · rw [h]
            show 1 ≤ y ∧ y ≤ 9
            omega
          · exact G.wgt s h
  | addDeparture x =>
    unfold Km561.step
    dsimp only
    by_cases c : Km561.lastHour < x
    · rw [if_pos c]
      exact same _
    · rw [if_neg c]
      by_cases c2 : tt.departures.contains x = true
      · rw [if_pos c2]
        exact same _
      · rw [if_neg c2]
        by_cases c3 : Km561.maxShips ≤ tt.departures.length
        · rw [if_pos c3]
          exact same _
        · rw [if_neg c3]
          have c4 : ¬ 8 ≤ tt.departures.length := c3
          have c5 : ¬ 48 < x := c
          refine ⟨_, _, rfl, G.len, G.arr, G.wgt, ?_, fun d hd => ?_, sorted_insertHour G.srt⟩
          · have := len_insertHour x tt.departures
            show (Km561.insertHour x tt.departures).length ≤ 8
            omega
          · rcases mem_insertHour.mp hd with h | h
            · rw [h]
              omega
            · exact G.dhr d h
  | cancelDeparture x =>
    unfold Km561.step
    dsimp only
    by_cases c : tt.departures.contains x = false
    · rw [if_pos c]
      exact same _
    · rw [if_neg c]
      exact ⟨_, _, rfl, G.len, G.arr, G.wgt, Nat.le_trans (List.length_filter_le _ _) G.dlen, fun d hd => G.dhr d (List.mem_filter.mp hd).1, G.srt.filter _⟩
  | useOptimalDepartures k =>
    unfold Km561.step
    dsimp only
    by_cases c : k = 0 ∨ Km561.maxShips < k
    · rw [if_pos c]
      exact same _
    · rw [if_neg c]
      have c' : ¬ (k = 0 ∨ 8 < k) := c
      obtain ⟨r, e⟩ := optimal_some tt (k := k) (by omega)
      rw [e]
      obtain ⟨h1, h2, h3⟩ := optimal_list e
      refine ⟨_, _, rfl, G.len, G.arr, G.wgt, show r.2.length ≤ 8 by omega, fun d hd => ?_, h1⟩
      obtain ⟨s, hs, q⟩ := mem_hours.mp (h3 d hd)
      rw [← q]
      exact G.arr s hs
  | listShips => exact same _
  | listDepartures => exact same _
  | allServed => exact same _
  | totalWaiting => exact same _
  | waitingTime i => exact same _
  | longestWaiting => exact same _
  | optimalDepartures k => exact same _
  | excessWaiting => exact same _
  | savingOfDeparture k => exact same _
  | minDepartures l => exact same _
  | cheapestCount p => exact same _
  | totalWaitingWith h => exact same _
  | nextDeparture h => exact same _
  | shipsPerDeparture => exact same _
  | optimalWaitingWithShip x y => exact same _
  | optimalWaitingWithoutShip i => exact same _
  | summary => exact same _
end Ct
set_option Elab.async false
set_option maxRecDepth 100000
set_option maxHeartbeats 2000000
/-! The optimum: no list of departures does better; one convoy more does no worse; with as many convoys as hours nobody waits. -/
namespace Ct
open Km561 (Ship Timetable)
theorem sum_foldl (l : List Nat) : ∀ x : Nat, l.foldl (fun (a b : Nat) => a + b) x = x + Km561.sum l := by
  induction l with
  | nil => intro x; rfl
  | cons y r ih =>
    intro x
    unfold Km561.sum at ih ⊢
    rw [List.foldl_cons, List.foldl_cons, ih, ih (0 + y)]
    omega
theorem sum_cons (x : Nat) (l : List Nat) : Km561.sum (x :: l) = x + Km561.sum l := by
  show (x :: l).foldl (fun (a b : Nat) => a + b) 0 = _
  rw [List.foldl_cons, sum_foldl]
  omega
theorem sum_le2 {f g h : Ship → Nat} : ∀ {ss : List Ship}, (∀ s ∈ ss, f s + g s ≤ h s) → Km561.sum (ss.map f) + Km561.sum (ss.map g) ≤ Km561.sum (ss.map h)
  | [], _ => Nat.le_refl _
  | s :: r, hp => by
    have ih := sum_le2 (ss := r) fun x hx => hp x (List.mem_cons_of_mem _ hx)
    have h1 := hp s (List.mem_cons_self ..)
    rw [List.map_cons, List.map_cons, List.map_cons, sum_cons, sum_cons, sum_cons]
    omega
theorem sum_zero {f : Ship → Nat} : ∀ {ss : List Ship}, (∀ s ∈ ss, f s = 0) → Km561.sum (ss.map f) = 0
  | [], _ => rfl
  | s :: r, hp => by
    rw [List.map_cons, sum_cons, hp s (List.mem_cons_self ..), sum_zero fun x hx => hp x (List.mem_cons_of_mem _ hx)]
/-! ### the fold takes the least -/
theorem choice_fold {tt : Timetable} {hours : List Nat} {c i : Nat} : ∀ (n : Nat) (j : Nat), j < n → ∀ rest, Km561.optimalFrom tt hours c (i + j + 1) = some rest →
    ∃ o, (List.range n).foldl (choice tt hours c i) none = some o ∧ o.1 ≤ Km561.waitingUntil tt (hours.getD i 0) (hours.getD (i + j) 0) + rest.1
  | 0, j, hj, _, _ => absurd hj (Nat.not_lt_zero _)
  | n + 1, j, hj, rest, er => by
    have ih := choice_fold (tt := tt) (hours := hours) (c := c) (i := i) n
    rw [List.range_succ, List.foldl_append]
    show ∃ o, choice tt hours c i ((List.range n).foldl (choice tt hours c i) none) n = some o ∧ _
    generalize (List.range n).foldl (choice tt hours c i) none = b at ih
    unfold choice
    by_cases q : j = n
    · subst q
      rw [er]
      cases b with
      | none => exact ⟨_, rfl, Nat.le_refl _⟩
      | some o =>
        dsimp only
        by_cases l : Km561.waitingUntil tt (hours.getD i 0) (hours.getD (i + j) 0) + rest.1 < o.1
        · rw [if_pos l]
          exact ⟨_, rfl, Nat.le_refl _⟩
        · rw [if_neg l]
          exact ⟨o, rfl, by omega⟩
    · obtain ⟨o, rfl, ho⟩ := ih j (by omega) rest er
      cases eo : Km561.optimalFrom tt hours c (i + n + 1) with
      | none => exact ⟨o, rfl, ho⟩
      | some rn =>
        dsimp only
        by_cases l : Km561.waitingUntil tt (hours.getD i 0) (hours.getD (i + n) 0) + rn.1 < o.1
        · rw [if_pos l]
          exact ⟨_, rfl, by show Km561.waitingUntil tt (hours.getD i 0) (hours.getD (i + n) 0) + rn.1 ≤ _; omega⟩
        · rw [if_neg l]
          exact ⟨o, rfl, ho⟩
theorem opt_le {tt : Timetable} {hours : List Nat} {c i j : Nat} {rest : Nat × List Nat} (hj : i + j < hours.length) (er : Km561.optimalFrom tt hours c (i + j + 1) = some rest) :
    ∃ o, Km561.optimalFrom tt hours (c + 1) i = some o ∧ o.1 ≤ Km561.waitingUntil tt (hours.getD i 0) (hours.getD (i + j) 0) + rest.1 := by
  rw [opt_succ (by omega)]
  exact choice_fold _ j (by omega) rest er
/-- one convoy more does no worse -/
theorem opt_mono {tt : Timetable} {hours : List Nat} : ∀ (c i : Nat) (r : Nat × List Nat), Km561.optimalFrom tt hours c i = some r → ∃ o, Km561.optimalFrom tt hours (c + 1) i = some o ∧ o.1 ≤ r.1
  | 0, i, r, e => by
    by_cases h : hours.length ≤ i
    · rw [opt_done h] at e
      cases e
      exact ⟨_, opt_done h, Nat.le_refl _⟩
    · rw [opt_zero h] at e
      cases e
  | c + 1, i, r, e => by
    by_cases h : hours.length ≤ i
    · rw [opt_done h] at e
      cases e
      exact ⟨_, opt_done h, Nat.le_refl _⟩
    · obtain ⟨j, rest, hj, er, rfl⟩ := opt_made h e
      obtain ⟨rest', er', hr⟩ := opt_mono c (i + j + 1) rest er
      obtain ⟨o, eo, ho⟩ := opt_le hj er'
      exact ⟨o, eo, by show o.1 ≤ _ + rest.1; omega⟩
theorem until_self (tt : Timetable) (h : Nat) : Km561.waitingUntil tt h h = 0 := by
  unfold Km561.waitingUntil
  refine sum_zero fun s _ => ?_
  by_cases c : h ≤ s.arrival ∧ s.arrival ≤ h
  · rw [if_pos c, show h - s.arrival = 0 by omega, Nat.mul_zero]
  · rw [if_neg c]
/-- with as many convoys as hours nobody waits -/
theorem opt_all {tt : Timetable} {hours : List Nat} : ∀ (c i : Nat), hours.length - i ≤ c → ∃ o, Km561.optimalFrom tt hours c i = some o ∧ o.1 = 0
  | 0, i, h => ⟨_, opt_done (by omega), rfl⟩
  | c + 1, i, h => by
    by_cases hi : hours.length ≤ i
    · exact ⟨_, opt_done hi, rfl⟩
    · obtain ⟨rest, er, h0⟩ := opt_all (tt := tt) (hours := hours) c (i + 0 + 1) (by omega)
      obtain ⟨o, eo, ho⟩ := opt_le (i := i) (j := 0) (by omega) er
      refine ⟨o, eo, ?_⟩
      rw [Nat.add_zero, until_self, h0] at ho
      omega
/-! ### no list of departures does better -/
/-- the last hour of the list that is no later than d -/
theorem last_upto {l : List Nat} (hs : l.Pairwise (· < ·)) (d : Nat) : ∀ (n i : Nat), l.length - i = n → i < l.length → l.getD i 0 ≤ d → ∃ j, i + j < l.length ∧ l.getD (i + j) 0 ≤ d ∧ ∀ k, i + j < k → k < l.length → d < l.getD k 0
  | 0, i, hn, hi, _ => absurd hi (by omega)
  | n + 1, i, hn, hi, hd => by
    by_cases c : i + 1 < l.length ∧ l.getD (i + 1) 0 ≤ d
    · obtain ⟨j, h1, h2, h3⟩ := last_upto hs d n (i + 1) (by omega) c.1 c.2
      refine ⟨j + 1, by omega, ?_, fun k hk hk2 => h3 k (by omega) hk2⟩
      rw [show i + (j + 1) = i + 1 + j by omega]
      exact h2
    · refine ⟨0, by omega, hd, fun k hk hk2 => ?_⟩
      by_cases e : k = i + 1
      · subst e
        exact Nat.lt_of_not_le fun z => c ⟨hk2, z⟩
      · have h4 : l.getD (i + 1) 0 < l.getD k 0 := getD_lt hs (by omega) hk2
        have h5 : d < l.getD (i + 1) 0 := Nat.lt_of_not_le fun z => c ⟨by omega, z⟩
        omega
theorem first_ge {ds : List Nat} (hs : ds.Pairwise (· < ·)) {n d e : Nat} (h : firstFrom ds n = some d) (he : e ∈ ds) (hn : n ≤ e) : d ≤ e := by
  induction ds with
  | nil => cases he
  | cons x r ih =>
    have h1 := List.pairwise_cons.mp hs
    unfold firstFrom at h
    rw [List.find?_cons] at h
    by_cases c : n ≤ x
    · rw [decide_eq_true c] at h
      cases h
      rcases List.mem_cons.mp he with q | q
      · rw [q]
        exact Nat.le_refl _
      · exact Nat.le_of_lt (h1.1 e q)
    · rw [decide_eq_false c] at h
      rcases List.mem_cons.mp he with q | q
      · rw [q] at hn
        exact absurd hn c
      · exact ih h1.2 h q
/-- the departures behind d serve what comes behind d as all do -/
theorem first_behind {d n : Nat} (h : d < n) : ∀ ds : List Nat, firstFrom (ds.filter fun x => decide (d < x)) n = firstFrom ds n
  | [] => rfl
  | x :: r => by
    have ih := first_behind h r
    rw [List.filter_cons]
    unfold firstFrom at ih ⊢
    by_cases c : d < x
    · rw [if_pos (by rw [decide_eq_true c]), List.find?_cons, List.find?_cons, ih]
    · rw [if_neg (by rw [decide_eq_false c]; exact Bool.noConfusion), ih, List.find?_cons, decide_eq_false (show ¬ n ≤ x by omega)]
theorem len_behind {d : Nat} : ∀ {ds : List Nat}, d ∈ ds → (ds.filter fun x => decide (d < x)).length < ds.length
  | x :: r, h => by
    rw [List.filter_cons, List.length_cons]
    have h0 := List.length_filter_le (fun x => decide (d < x)) r
    rcases List.mem_cons.mp h with q | q
    · subst q
      rw [if_neg (by rw [decide_eq_false (Nat.lt_irrefl d)]; exact Bool.noConfusion)]
      omega
    · have ih := len_behind q
      by_cases c : d < x
      · rw [if_pos (by rw [decide_eq_true c]), List.length_cons]
        omega
      · rw [if_neg (by rw [decide_eq_false c]; exact Bool.noConfusion)]
        omega
/-- the waiting of the ships from the hour t on -/
def fromT (ds : List Nat) (t : Nat) (s : Ship) : Nat := if t ≤ s.arrival then wt ds s else 0
theorem wt_of {ds : List Nat} {s : Ship} {e : Nat} (h : firstFrom ds s.arrival = some e) : wt ds s = s.weight * (e - s.arrival) := by
  unfold wt
  rw [h]
  rfl
theorem opt_best {tt : Timetable} {hours : List Nat} (hs : hours.Pairwise (· < ·)) (hm : ∀ s ∈ tt.ships, ∃ k, k < hours.length ∧ hours.getD k 0 = s.arrival) (hx : ∀ k, k < hours.length → ∃ s ∈ tt.ships, s.arrival = hours.getD k 0) :
    ∀ (c i t : Nat) (ds : List Nat), (∀ k, k < hours.length → (i ≤ k ↔ t ≤ hours.getD k 0)) → ds.Pairwise (· < ·) → ds.length ≤ c → (∀ s ∈ tt.ships, t ≤ s.arrival → (firstFrom ds s.arrival).isSome = true) →
      ∃ o, Km561.optimalFrom tt hours c i = some o ∧ o.1 ≤ Km561.sum (tt.ships.map (fromT ds t))
  | c, i, t, ds, ht, hds, hlen, hsv => by
    by_cases hi : hours.length ≤ i
    · exact ⟨_, opt_done hi, Nat.zero_le _⟩
    · have hi' : i < hours.length := Nat.lt_of_not_le hi
      obtain ⟨s0, hs0, e0⟩ := hx i hi'
      have t0 := (ht i hi').mp (Nat.le_refl _)
      have v0 := hsv s0 hs0 (by rw [e0]; exact t0)
      rw [e0] at v0
      cases ed : firstFrom ds (hours.getD i 0) with
      | none =>
        rw [ed] at v0
        cases v0
      | some d =>
        obtain ⟨hid, hdm⟩ := firstFrom_le ed
        obtain ⟨j, hj, hjd, hjk⟩ := last_upto hs d _ i rfl hi' hid
        have hl := len_behind hdm
        cases c with
        | zero => omega
        | succ c =>
          have ht' : ∀ k, k < hours.length → (i + j + 1 ≤ k ↔ d + 1 ≤ hours.getD k 0) := fun k hk => by
            constructor
            · intro q
              exact hjk k (by omega) hk
            · intro q
              rcases Nat.lt_or_ge (i + j) k with z | z
              · omega
              · exfalso
                rcases Nat.lt_or_ge k (i + j) with y | y
                · have := getD_lt hs y hj
                  omega
                · have e : k = i + j := by omega
                  rw [e] at q
                  omega
          obtain ⟨rest, er, hr⟩ := opt_best hs hm hx c (i + j + 1) (d + 1) (ds.filter fun x => decide (d < x)) ht' (hds.filter _) (by omega) fun s hss ha => by
            rw [first_behind (by omega)]
            exact hsv s hss (by omega)
          obtain ⟨o, eo, ho⟩ := opt_le hj er
          refine ⟨o, eo, Nat.le_trans ho (Nat.le_trans (Nat.add_le_add_left hr _) ?_)⟩
          unfold Km561.waitingUntil
          refine sum_le2 fun s hss => ?_
          obtain ⟨k, hk, hka⟩ := hm s hss
          unfold fromT
          by_cases c1 : t ≤ s.arrival
          · rw [if_pos c1]
            have ik : i ≤ k := (ht k hk).mpr (by rw [hka]; exact c1)
            obtain ⟨e, ee⟩ := Option.isSome_iff_exists.mp (hsv s hss c1)
            rw [wt_of ee]
            have hia : hours.getD i 0 ≤ s.arrival := by
              rw [← hka]
              rcases Nat.lt_or_ge i k with q | q
              · exact Nat.le_of_lt (getD_lt hs q hk)
              · rw [show i = k by omega]
                exact Nat.le_refl _
            by_cases c2 : d + 1 ≤ s.arrival
            · rw [if_pos c2, if_neg (by omega), Nat.zero_add, wt_of (by rw [first_behind (by omega)]; exact ee)]
              exact Nat.le_refl _
            · rw [if_neg c2, Nat.add_zero]
              obtain ⟨h1, h2⟩ := firstFrom_le ee
              have hde : d ≤ e := first_ge hds ed h2 (by omega)
              by_cases c3 : hours.getD i 0 ≤ s.arrival ∧ s.arrival ≤ hours.getD (i + j) 0
              · rw [if_pos c3]
                exact Nat.mul_le_mul_left _ (by omega)
              · rw [if_neg c3]
                exact Nat.zero_le _
          · rw [if_neg c1]
            have hka2 : ¬ i ≤ k := fun q => c1 (by rw [← hka]; exact (ht k hk).mp q)
            have hlt : s.arrival < hours.getD i 0 := by
              rw [← hka]
              exact getD_lt hs (by omega) hi'
            rw [if_neg (by omega), if_neg (by omega)]
            exact Nat.le_refl _
theorem hours_at {tt : Timetable} {s : Ship} (h : s ∈ tt.ships) : ∃ k, k < (Km561.arrivalHours tt).length ∧ (Km561.arrivalHours tt).getD k 0 = s.arrival := by
  obtain ⟨k, hk⟩ := List.mem_iff_getElem?.mp (mem_hours.mpr ⟨s, h, rfl⟩)
  exact ⟨k, (List.getElem?_eq_some_iff.mp hk).1, by rw [List.getD_eq_getElem?_getD, hk]; rfl⟩
/-- point 1: whatever departures serve all, the optimum waits no longer -/
theorem optimal_le_total {tt : Timetable} {ds : List Nat} {k : Nat} (hds : ds.Pairwise (· < ·)) (hl : ds.length ≤ k) (hv : Km561.allServed tt ds = true) : Km561.optimalWaiting tt k ≤ Km561.totalWaiting tt ds := by
  rw [served_is hds] at hv
  obtain ⟨o, eo, ho⟩ := opt_best (tt := tt) (hours_sorted tt) (fun s h => hours_at h) (fun k hk => mem_hours.mp (getD_mem hk)) k 0 0 ds (fun k _ => by simp) hds hl fun s hs _ => List.all_eq_true.mp hv s hs
  unfold Km561.optimalWaiting Km561.optimal
  rw [eo, total_is hds]
  show o.1 ≤ _
  have e : fromT ds 0 = wt ds := funext fun s => if_pos (Nat.zero_le _)
  rw [e] at ho
  exact ho
theorem optimal_mono {tt : Timetable} {k : Nat} (h : k ≠ 0) : Km561.optimalWaiting tt (k + 1) ≤ Km561.optimalWaiting tt k := by
  obtain ⟨r, e⟩ := optimal_some tt h
  obtain ⟨o, eo, ho⟩ := opt_mono _ _ _ e
  unfold Km561.optimalWaiting
  rw [e, show Km561.optimal tt (k + 1) = some o from eo]
  exact ho
theorem optimal_zero {tt : Timetable} {k : Nat} (h : tt.ships.length ≤ k) : Km561.optimalWaiting tt k = 0 := by
  have hl := hours_len tt
  obtain ⟨o, eo, ho⟩ := opt_all (tt := tt) (hours := Km561.arrivalHours tt) k 0 (by omega)
  unfold Km561.optimalWaiting
  rw [show Km561.optimal tt k = some o from eo]
  exact ho
theorem optimal_none {tt : Timetable} (h : tt.ships = []) (k : Nat) : Km561.optimal tt k = some (0, []) := by
  unfold Km561.optimal
  refine opt_done ?_
  have := hours_len tt
  rw [h] at this
  exact this
theorem optimalWaiting_of {tt : Timetable} {k : Nat} {r : Nat × List Nat} (e : Km561.optimal tt k = some r) : Km561.optimalWaiting tt k = r.1 := by
  unfold Km561.optimalWaiting
  rw [e]
  rfl
end Ct
set_option Elab.async false
set_option maxRecDepth 100000
set_option maxHeartbeats 2000000
namespace Ct
open PySem PySem.Spec PyProof.Rows L2
open Km561 (Ship Timetable)
abbrev s_all_served : Stmt := top 42
abbrev s_total_waiting : Stmt := top 43
abbrev s_waiting_time : Stmt := top 44
abbrev s_longest_waiting : Stmt := top 45
theorem sc_all_served : FnScope ["instance"] ["instance"] (defScope s_all_served) := ⟨rfl, rfl, rfl, by decide +kernel, rfl, by decide +kernel, by decide +kernel⟩
theorem sc_total_waiting : FnScope ["instance", "total"] ["instance"] (defScope s_total_waiting) := ⟨rfl, rfl, rfl, by decide +kernel, rfl, by decide +kernel, by decide +kernel⟩
theorem sc_waiting_time : FnScope ["instance", "ship", "arrival", "departure"] ["instance", "ship"] (defScope s_waiting_time) := ⟨rfl, rfl, rfl, by decide +kernel, rfl, by decide +kernel, by decide +kernel⟩
theorem sc_longest_waiting : FnScope ["instance", "longest"] ["instance"] (defScope s_longest_waiting) := ⟨rfl, rfl, rfl, by decide +kernel, rfl, by decide +kernel, by decide +kernel⟩
def flatShips (ss : List Ship) : List Int := ss.flatMap fun s => [(s.arrival : Int), (s.weight : Int)]
theorem flat_len (ss : List Ship) : (flatShips ss).length = 2 * ss.length := by
  induction ss with
  | nil => rfl
  | cons s r ih =>
    show ([(s.arrival : Int), (s.weight : Int)] ++ flatShips r).length = _
    simp only [List.length_append, ih, List.length_cons, List.length_nil]
    omega
theorem flat_snoc (ss : List Ship) (s : Ship) : flatShips (ss ++ [s]) = flatShips ss ++ [(s.arrival : Int), (s.weight : Int)] := by
  unfold flatShips
  rw [List.flatMap_append]
  rfl
theorem TT.wgt9 {C : Addr} {H : Hp} {a sl dl : Addr} {zs : List (Addr × Ship)} {tt : Timetable} (T : TT C H a sl dl zs tt) (G : Good tt) : ∀ z ∈ zs, z.2.weight ≤ 9 := fun z hz =>
  (G.wgt z.2 (by rw [← T.zs_]; exact List.mem_map_of_mem hz)).2
theorem weighted_is {tt : Timetable} (G : Good tt) : weighted tt.ships tt.departures = if Km561.allServed tt tt.departures = false then none else some (Km561.totalWaiting tt tt.departures) := by
  rw [served_is G.srt, total_is G.srt]
  unfold weighted
  cases tt.ships.all (served tt.departures) <;> rfl
section
variable {P : Program} {w : World} {K : PySem.W.Frag} {mg : Str → Option Value} {base : Heap} {C : Addr}
theorem def_list_ships (D : DefF K mg "list_ships" s_list_ships) (T : Txt K mg C) :
    Def P w K mg base 1 "list_ships" ["instance"] (spOp C 0 (c0 .listShips)) := by
  refine Def.mk' D sc_list_ships (fun _ _ _ _ _ _ us hl => match us, hl with | [_], _ => rfl) (fun vs H Q E h => spOp_len h) (fun f cdv A outer s H vs Q E hr h => ?_)
  obtain ⟨a, sl, dl, zs, tt, tt', r, xs, rfl, hl, hT, hG, hst, k⟩ := h
  obtain rfl := len0 hl
  obtain ⟨dx, hi⟩ := hT.ins
  refine ⟨_, pss_cons (ps_set (i := 1) sc_list_ships.nd rfl (Or.inl rfl) (pe_lst (pa_cons (pe_callB call_len_seq (by rfl) T.len PySem.boot_len (pa_cons (pe_fld (pv 0) rfl) pa_nil)) pa_nil)))
    (pss_cons (ps_for PassesOwn.never rfl (pi_list (pe_fld (pv 0) rfl)) (pg_tup rfl (pgs_cons (pg_name (i := 2) sc_list_ships.nd rfl (Or.inl rfl)) (pgs_cons (pg_name (i := 3) sc_list_ships.nd rfl (Or.inl rfl)) pgs_nil)))
      (pss_cons (ps_expr (pe_bm PySem.F.plainAttrs_list PySem.F.slot_list_append PySem.F.type_list_append mt_append (pv 1) (pa_cons (pv 2) pa_nil)))
      (pss_one (ps_expr (pe_bm PySem.F.plainAttrs_list PySem.F.slot_list_append PySem.F.type_list_append mt_append (pv 1) (pa_cons (pv 3) pa_nil))))))
    (pss_one (ps_ret (pv 1)))), ?_⟩
  have hstep : Km561.step (some tt) .listShips = (some tt', r) := hst
  unfold Km561.step at hstep
  dsimp only at hstep
  cases hstep
  have h8 := hG.sl hT.zs_
  refine ⟨_, rfl, a, C, dx, _, _, rfl, hi, T.cl, T.nS, lkS, sl, _, rfl, .inl (SqL.of hT.sh.lst), by show 1 ≤ sizeLine; decide, fun q hq => ?_⟩
  have s1 : Same H (upd H q (.lst [.int (((zs.map (fun z => V.ref z.1)).length : Nat) : Int)])) := same_upd hq
  refine ⟨_, rfl, a, C, dx, _, _, rfl, s1 _ _ hi, T.cl, T.nS, lkS, sl, rfl, ⟨_, SqL.of (s1 _ _ hT.sh.lst)⟩, for_pre (K := K) (a := sl) (l := zs) (f := fun z => V.ref z.1) (fun pre σ H' => Same H H' ∧
    H' q = some (.lst (V.int (tt.ships.length : Int) :: (flatShips (pre.map (·.2))).map V.int)) ∧ ∃ v2 v3, σ = [some (.ref a), some (.ref q), v2, v3]) ⟨s1, ?_, none, none, rfl⟩
    (fun pre σ H' ⟨e, _⟩ => SqL.of (e _ _ hT.sh.lst)) ?_ ?_⟩
  · rw [upd_same, List.length_map, hT.slen]
    rfl
  · rintro pre z post σ H1 hp ⟨sm, hq1, v2, v3, rfl⟩
    have hz : z ∈ zs := by rw [hp]; simp
    have hlp : (pre.map (·.2)).length < 8 := by
      have := congrArg List.length hp
      rw [List.length_append, List.length_cons] at this
      rw [List.length_map]
      omega
    have fl := flat_len (pre.map (·.2))
    have sz : ∀ n : Nat, n ≤ 17 → n < sizeLine := fun n hn => Nat.lt_of_le_of_lt hn (by decide)
    refine ⟨_, _, rfl, SqT.of (sm _ _ (hT.sh.at_ z hz)), rfl, _, _, rfl, _, _, rfl, rfl, ?_⟩
    refine ⟨_, rfl, .inl ⟨rfl, _, SqL.of hq1⟩, _, rfl, q, _, _, rfl, rfl, hq1, sz _ (by rw [List.length_cons, List.length_map, fl]; omega), ?_⟩
    refine ⟨_, rfl, .inl ⟨rfl, _, SqL.of upd_same⟩, _, rfl, q, _, _, rfl, rfl, upd_same, sz _ (by rw [List.length_append, List.length_cons, List.length_map, fl]; show 2 * (pre.map (·.2)).length + 1 + 1 ≤ 17; omega), ?_⟩
    refine ⟨fun b o e => ?_, ?_, _, _, rfl⟩
    · have nb : b ≠ q := ne_of_none e hq
      rw [upd_ne nb, upd_ne nb]
      exact sm _ _ e
    · rw [upd_same, List.map_append, List.map_cons, List.map_nil, flat_snoc, List.map_append, List.append_assoc]
      rfl
  · rintro σ H1 ⟨sm, hq1, v2, v3, rfl⟩
    refine ⟨_, rfl, k.same hT sm ?_ hq⟩
    rw [hq1, hT.zs_]
    rfl
theorem def_all_served (D : DefF K mg "all_served" s_all_served) (T : Txt K mg C) (D1 : Def P w K mg base 3 "weighted_waiting" ["ships", "departures"] (spWeighted K)) :
    Def P w K mg base 4 "all_served" ["instance"] (spOp C 0 (c0 .allServed)) := by
  refine Def.mk' D sc_all_served (fun _ _ _ _ _ _ us hl => match us, hl with | [_], _ => rfl) (fun vs H Q E h => spOp_len h) (fun f cdv A outer s H vs Q E hr h => ?_)
  obtain ⟨a, sl, dl, zs, tt, tt', r, xs, rfl, hl, hT, hG, hst, k⟩ := h
  obtain rfl := len0 hl
  obtain ⟨dx, hi⟩ := hT.ins
  refine ⟨_, pss_cons (ps_if (pt_cmp (pc_isN (pe_callD D1 hr (pa_cons (pe_fld (pv 0) rfl) (pa_cons (pe_fld (pv 0) rfl) pa_nil))))) (pss_one (ps_ret (pe_lst (pa_cons pe_int pa_nil)))) pss_nil)
    (pss_one (ps_ret (pe_lst (pa_cons pe_int pa_nil)))), ?_⟩
  have hstep : Km561.step (some tt) .allServed = (some tt', r) := hst
  unfold Km561.step at hstep
  dsimp only at hstep
  cases hstep
  refine ⟨_, rfl, a, C, dx, _, _, rfl, hi, T.cl, T.nS, lkS, _, rfl, a, C, dx, _, _, rfl, hi, T.cl, T.nD, lkD, sl, dl, zs, tt.departures, rfl, hT.sh, SqL.of hT.dep, hT.wgt9 hG, ?_⟩
  rw [hT.zs_, weighted_is hG]
  cases e : Km561.allServed tt tt.departures with
  | false =>
    rw [e] at k
    rw [if_pos rfl]
    exact ⟨_, rfl, iteT ⟨by show 1 ≤ sizeLine; decide, fun p hp => k.one hT hp⟩⟩
  | true =>
    rw [e] at k
    rw [if_neg (by decide)]
    exact ⟨_, rfl, iteF ⟨by show 1 ≤ sizeLine; decide, fun p hp => k.one hT hp⟩⟩
theorem def_total_waiting (D : DefF K mg "total_waiting" s_total_waiting) (T : Txt K mg C) (D1 : Def P w K mg base 3 "weighted_waiting" ["ships", "departures"] (spWeighted K)) :
    Def P w K mg base 4 "total_waiting" ["instance"] (spOp C 0 (c0 .totalWaiting)) := by
  refine Def.mk' D sc_total_waiting (fun _ _ _ _ _ _ us hl => match us, hl with | [_], _ => rfl) (fun vs H Q E h => spOp_len h) (fun f cdv A outer s H vs Q E hr h => ?_)
  obtain ⟨a, sl, dl, zs, tt, tt', r, xs, rfl, hl, hT, hG, hst, k⟩ := h
  obtain rfl := len0 hl
  obtain ⟨dx, hi⟩ := hT.ins
  refine ⟨_, pss_cons (ps_set (i := 1) sc_total_waiting.nd rfl (Or.inl rfl) (pe_callD D1 hr (pa_cons (pe_fld (pv 0) rfl) (pa_cons (pe_fld (pv 0) rfl) pa_nil))))
    (pss_cons (ps_if (pt_cmp (pc_isN (pv 1))) (pss_one (ps_ret (pe_lst (pa_cons (pe_conF T.notServed) pa_nil)))) pss_nil)
    (pss_one (ps_ret (pe_lst (pa_cons (pv 1) pa_nil))))), ?_⟩
  have hstep : Km561.step (some tt) .totalWaiting = (some tt', r) := hst
  unfold Km561.step at hstep
  dsimp only at hstep
  cases hstep
  refine ⟨_, rfl, a, C, dx, _, _, rfl, hi, T.cl, T.nS, lkS, _, rfl, a, C, dx, _, _, rfl, hi, T.cl, T.nD, lkD, sl, dl, zs, tt.departures, rfl, hT.sh, SqL.of hT.dep, hT.wgt9 hG, ?_⟩
  rw [hT.zs_, weighted_is hG]
  cases e : Km561.allServed tt tt.departures with
  | false =>
    rw [e] at k
    rw [if_pos rfl]
    rw [if_pos rfl] at k
    exact ⟨_, rfl, _, rfl, iteT ⟨by show 1 ≤ sizeLine; decide, fun p hp => k.one hT hp⟩⟩
  | true =>
    rw [e] at k
    rw [if_neg (by decide)]
    rw [if_neg (by decide)] at k
    exact ⟨_, rfl, _, rfl, iteF ⟨_, rfl, by show 1 ≤ sizeLine; decide, fun p hp => k.one hT hp⟩⟩
theorem def_waiting_time (D : DefF K mg "waiting_time" s_waiting_time) (T : Txt K mg C) (D1 : Def P w K mg base 1 "has_ship" ["instance", "ship"] (spHasShip C)) (D2 : Def P w K mg base 1 "first_departure_from" ["departures", "hour"] (spFirst K)) :
    Def P w K mg base 2 "waiting_time" ["instance", "ship"] (spOp C 1 (c1 .waitingTime)) := by
  refine Def.mk' D sc_waiting_time (fun _ _ _ _ _ _ us hl => match us, hl with | [_, _], _ => rfl) (fun vs H Q E h => spOp_len h) (fun f cdv A outer s H vs Q E hr h => ?_)
  obtain ⟨a, sl, dl, zs, tt, tt', r, xs, rfl, hl, hT, hG, hst, k⟩ := h
  obtain ⟨x, rfl⟩ := len1 hl
  obtain ⟨dx, hi⟩ := hT.ins
  refine ⟨_, pss_cons (ps_if (pt_not (pt_val (pe_callD D1 hr (pa_cons (pv 0) (pa_cons (pv 1) pa_nil))))) (pss_one (ps_ret (pe_lst (pa_cons (pe_conF T.noSuch) pa_nil)))) pss_nil)
    (pss_cons (ps_set (i := 2) sc_waiting_time.nd rfl (Or.inl rfl) (pe_ix ix_tup (pe_ix ix_list (pe_fld (pv 0) rfl) (pv 1) (fun _ _ => rfl)) pe_int (fun _ _ => rfl)))
    (pss_cons (ps_set (i := 3) sc_waiting_time.nd rfl (Or.inl rfl) (pe_callD D2 hr (pa_cons (pe_fld (pv 0) rfl) (pa_cons (pv 2) pa_nil))))
    (pss_cons (ps_if (pt_cmp (pc_isN (pv 3))) (pss_one (ps_ret (pe_lst (pa_cons (pe_conF T.notServed) pa_nil)))) pss_nil)
    (pss_one (ps_ret (pe_lst (pa_cons (pe_op op_sub (pv 3) (pv 2)) (pa_cons (pv 3) pa_nil)))))))), ?_⟩
  have hstep : Km561.step (some tt) (.waitingTime x) = (some tt', r) := hst
  unfold Km561.step at hstep
  dsimp only at hstep
  cases hstep
  refine ⟨_, rfl, _, rfl, a, sl, dl, zs, tt, x, rfl, hT, _, rfl, ?_⟩
  by_cases c : x < tt.ships.length
  · rw [decide_eq_true c]
    refine iteF ?_
    rw [if_neg (show ¬ Km561.shipCount tt ≤ x by show ¬ tt.ships.length ≤ x; omega)] at k
    obtain ⟨z, hz, hm, eg, hzt⟩ := hT.at_i c
    rw [eg, next_is _ hG.srt] at k
    refine ⟨_, rfl, a, C, dx, _, _, rfl, hi, T.cl, T.nS, lkS, _, rfl, sl, _, _, V.ref z.1, rfl, rfl, SqL.of hT.sh.lst, atI_nat (by rw [List.getElem?_map, hz]; rfl), _, _, _, _, rfl, rfl, SqT.of hzt, atI_nat (j := 0) rfl, ?_⟩
    refine ⟨_, rfl, a, C, dx, _, _, rfl, hi, T.cl, T.nD, lkD, _, rfl, dl, tt.departures, z.2.arrival, rfl, SqL.of hT.dep, ?_⟩
    cases e : firstFrom tt.departures z.2.arrival with
    | none =>
      rw [e] at k
      exact ⟨_, rfl, _, rfl, iteT ⟨by show 1 ≤ sizeLine; decide, fun p hp => k.one hT hp⟩⟩
    | some d =>
      rw [e] at k
      obtain ⟨hle, _⟩ := firstFrom_le e
      refine ⟨_, rfl, _, rfl, iteF ⟨_, rfl, _, rfl, _, _, rfl, rfl, _, rfl, by show 2 ≤ sizeLine; decide, fun p hp => k.same hT (same_upd hp) ?_ hp⟩⟩
      rw [upd_same]
      show some (HO.lst [V.int ((d : Int) - (z.2.arrival : Int)), V.int (d : Int)]) = some (HO.lst [V.int ((d - z.2.arrival : Nat) : Int), V.int (d : Int)])
      rw [show ((d : Int) - (z.2.arrival : Int)) = ((d - z.2.arrival : Nat) : Int) by omega]
  · rw [decide_eq_false c]
    rw [if_pos (show Km561.shipCount tt ≤ x by show tt.ships.length ≤ x; omega)] at k
    exact iteT ⟨by show 1 ≤ sizeLine; decide, fun p hp => k.one hT hp⟩
theorem def_longest_waiting (D : DefF K mg "longest_waiting" s_longest_waiting) (T : Txt K mg C) (D1 : Def P w K mg base 3 "longest_waiting_ship" ["ships", "departures"] (spLongest K)) :
    Def P w K mg base 4 "longest_waiting" ["instance"] (spOp C 0 (c0 .longestWaiting)) := by
  refine Def.mk' D sc_longest_waiting (fun _ _ _ _ _ _ us hl => match us, hl with | [_], _ => rfl) (fun vs H Q E h => spOp_len h) (fun f cdv A outer s H vs Q E hr h => ?_)
  obtain ⟨a, sl, dl, zs, tt, tt', r, xs, rfl, hl, hT, hG, hst, k⟩ := h
  obtain rfl := len0 hl
  obtain ⟨dx, hi⟩ := hT.ins
  refine ⟨_, pss_cons (ps_set (i := 1) sc_longest_waiting.nd rfl (Or.inl rfl) (pe_callD D1 hr (pa_cons (pe_fld (pv 0) rfl) (pa_cons (pe_fld (pv 0) rfl) pa_nil))))
    (pss_cons (ps_if (pt_cmp (pc_isN (pv 1))) (pss_one (ps_ret (pe_lst (pa_cons (pe_conF T.notServed) pa_nil)))) pss_nil)
    (pss_one (ps_ret (pe_callTy call_list_of (by rfl) T.list (by decide +kernel) (pa_cons (pv 1) pa_nil))))), ?_⟩
  have hstep : Km561.step (some tt) .longestWaiting = (some tt', r) := hst
  unfold Km561.step at hstep
  dsimp only at hstep
  cases hstep
  have h8 := hG.sl hT.zs_
  refine ⟨_, rfl, a, C, dx, _, _, rfl, hi, T.cl, T.nS, lkS, _, rfl, a, C, dx, _, _, rfl, hi, T.cl, T.nD, lkD, sl, dl, zs, tt.departures, rfl, hT.sh, SqL.of hT.dep, by omega, fun H1 v sm hb => ?_⟩
  rw [hT.zs_] at hb
  rw [long_is hG.srt] at k
  cases e : long tt.ships tt.departures with
  | none =>
    rw [e] at k hb
    obtain rfl : v = .non := hb
    exact ⟨_, rfl, _, rfl, iteT ⟨by show 1 ≤ sizeLine; decide, fun p hp => k.same hT (Same.upd sm hp) upd_same (sm.free hp)⟩⟩
  | some b =>
    rw [e] at k hb
    obtain ⟨q, rfl, hq⟩ := hb
    exact ⟨_, rfl, _, rfl, iteF ⟨_, rfl, q, _, rfl, .inr (SqT.of hq), fun p hp => k.same hT (Same.upd sm hp) upd_same (sm.free hp)⟩⟩
end
end Ct
set_option Elab.async false
set_option maxRecDepth 100000
set_option maxHeartbeats 2000000
namespace Ct
open PySem PySem.Spec PyProof.Rows L2
open Km561 (Ship Timetable)
abbrev s_perform : Stmt := top 61
theorem sc_perform : FnScope ["instance", "number", "parameters"] ["instance", "number", "parameters"] (defScope s_perform) := ⟨rfl, rfl, rfl, by decide +kernel, rfl, by decide +kernel, by decide +kernel⟩
/-- a written dict of the text: at each of these numbers the def of this name -/
def TabF (K : PySem.W.Frag) (mg : Str → Option Value) (x : Str) (l : List (Int × Str)) : Prop := ∃ d, mg x = some (.ref d) ∧ ∀ e ∈ l, ∃ f, mg e.2 = some (.ref f) ∧ KDctI K d e.1 (.ref f)
/-- a def, of whatever level up to k -/
def Upto (P : Program) (w : World) (K : PySem.W.Frag) (mg : Str → Option Value) (base : Heap) (k : Nat) (x : Str) (sp : Sp) : Prop := ∃ j ps, j ≤ k ∧ Def P w K mg base j x ps sp
theorem Upto.held {P : Program} {w : World} {K : PySem.W.Frag} {mg : Str → Option Value} {base : Heap} {k : Nat} {x : Str} {sp : Sp} {f : Addr} (U : Upto P w K mg base k x sp) (h : mg x = some (.ref f)) : ∃ j, j ≤ k ∧ Held P w K mg base j f sp := by
  obtain ⟨j, ps, hj, D⟩ := U
  obtain ⟨f', fd, F, hm, hk, hb⟩ := D.ex
  rw [h] at hm
  cases hm
  exact ⟨j, hj, ⟨fd, ps, F, hk, hb⟩⟩
/-- what perform is asked: the number of a call but create, its numbers in a list -/
def spPerform (C : Addr) : Sp := fun vs H Q _ => ∃ (a sl dl q : Addr) (zs : List (Addr × Ship)) (tt tt' : Timetable) (r : Km561.Result) (c : Km561.Call) (p : Int) (xs : List Nat), vs = [.ref a, .int p, .ref q] ∧ H q = some (.lst (xs.map nV)) ∧
  TT C H a sl dl zs tt ∧ Good tt ∧ p ≠ 0 ∧ Km561Neutral.parseCall [p :: xs.map fun n : Nat => (n : Int)] = some c ∧ Km561.step (some tt) c = (some tt', r) ∧ Aft C a sl dl tt' (r.num :: r.nums) H Q
/-- the row of a table that a call asks for -/
def Row (P : Program) (w : World) (K : PySem.W.Frag) (mg : Str → Option Value) (base : Heap) (C : Addr) (d : Addr) (n : Nat) (p : Int) (call : List Nat → Km561.Call) : Prop := ∃ f j, j ≤ 9 ∧ KDctI K d p (.ref f) ∧ Held P w K mg base j f (spOp C n call)
theorem row_of {P : Program} {w : World} {K : PySem.W.Frag} {mg : Str → Option Value} {base : Heap} {C d : Addr} {n : Nat} {p : Int} {x : Str} {call : List Nat → Km561.Call} (h : ∃ f, mg x = some (.ref f) ∧ KDctI K d p (.ref f)) (U : Upto P w K mg base 9 x (spOp C n call)) : Row P w K mg base C d n p call := by
  obtain ⟨f, hm, hk⟩ := h
  obtain ⟨j, hj, hh⟩ := U.held hm
  exact ⟨f, j, hj, hk, hh⟩
/-- a call of the first kind: by its number alone -/
inductive K0 : Int → Km561.Call → Prop
  | a5 : K0 5 .listShips
  | a8 : K0 8 .listDepartures
  | a9 : K0 9 .allServed
  | a10 : K0 10 .totalWaiting
  | a12 : K0 12 .longestWaiting
  | a15 : K0 15 .excessWaiting
  | a21 : K0 21 .shipsPerDeparture
  | a24 : K0 24 .summary
inductive K1 : Int → (Nat → Km561.Call) → Prop
  | a2 : K1 2 .removeShip
  | a6 : K1 6 .addDeparture
  | a7 : K1 7 .cancelDeparture
  | a11 : K1 11 .waitingTime
  | a13 : K1 13 .optimalDepartures
  | a14 : K1 14 .useOptimalDepartures
  | a16 : K1 16 .savingOfDeparture
  | a17 : K1 17 .minDepartures
  | a18 : K1 18 .cheapestCount
  | a19 : K1 19 .totalWaitingWith
  | a20 : K1 20 .nextDeparture
  | a23 : K1 23 .optimalWaitingWithoutShip
inductive K2 : Int → (Nat → Nat → Km561.Call) → Prop
  | a1 : K2 1 .addShip
  | a3 : K2 3 .setArrival
  | a4 : K2 4 .setWeight
  | a22 : K2 22 .optimalWaitingWithShip
theorem parse_form {p : Int} {xs : List Nat} {c : Km561.Call} (hp : p ≠ 0) (h : Km561Neutral.parseCall [p :: xs.map fun n : Nat => (n : Int)] = some c) :
    (xs = [] ∧ K0 p c) ∨ (∃ x k, xs = [x] ∧ K1 p k ∧ c = k x) ∨ (∃ x y k, xs = [x, y] ∧ K2 p k ∧ c = k x y) := by
  rcases xs with _ | ⟨x, _ | ⟨y, _ | ⟨z, r⟩⟩⟩
  · refine .inl ⟨rfl, ?_⟩
    rw [List.map_nil] at h
    unfold Km561Neutral.parseCall at h
    split at h
    all_goals first
      | (rename_i q; cases q; cases h; first | exact absurd rfl hp | constructor)
      | (rename_i q; cases q)
      | cases h
  · refine .inr (.inl ?_)
    rw [List.map_cons, List.map_nil] at h
    unfold Km561Neutral.parseCall at h
    split at h
    all_goals first
      | (rename_i q; cases q; cases h; exact ⟨x, _, rfl, by constructor, by rw [Int.toNat_natCast]⟩)
      | (rename_i q; cases q)
      | cases h
  · refine .inr (.inr ?_)
    rw [List.map_cons, List.map_cons, List.map_nil] at h
    unfold Km561Neutral.parseCall at h
    split at h
    all_goals first
      | (rename_i q; cases q; cases h; exact ⟨x, y, _, rfl, by constructor, by rw [Int.toNat_natCast, Int.toNat_natCast]⟩)
      | (rename_i q; cases q)
      | cases h
  · rw [List.map_cons, List.map_cons, List.map_cons] at h
    unfold Km561Neutral.parseCall at h
    split at h
    all_goals first
      | (rename_i q; cases q)
      | cases h
section
variable {P : Program} {w : World} {K : PySem.W.Frag} {mg : Str → Option Value} {base : Heap} {C : Addr}
theorem def_perform (D : DefF K mg "perform" s_perform) (T : Txt K mg C)
    (R0 : ∃ d, mg "WITH_NO_PARAMETER" = some (.ref d) ∧ ∀ p c, K0 p c → Row P w K mg base C d 0 p (c0 c))
    (R1 : ∃ d, mg "WITH_ONE_PARAMETER" = some (.ref d) ∧ ∀ p c, K1 p c → Row P w K mg base C d 1 p (c1 c))
    (R2 : ∃ d, mg "WITH_TWO_PARAMETERS" = some (.ref d) ∧ ∀ p c, K2 p c → Row P w K mg base C d 2 p (c2 c)) :
    Def P w K mg base 10 "perform" ["instance", "number", "parameters"] (spPerform C) := by
  obtain ⟨d0, m0, R0⟩ := R0
  obtain ⟨d1, m1, R1⟩ := R1
  obtain ⟨d2, m2, R2⟩ := R2
  refine Def.mk' D sc_perform (fun _ _ _ _ _ _ us hl => match us, hl with | [_, _, _], _ => rfl) (fun vs H Q E h => ?_) (fun f cdv A outer s H vs Q E hr h => ?_)
  · obtain ⟨a, sl, dl, q, zs, tt, tt', r, c, p, xs, rfl, _⟩ := h
    rfl
  obtain ⟨a, sl, dl, q, zs, tt, tt', r, c, p, xs, rfl, hq, hT, hG, hp, hc, hst, k⟩ := h
  have hA : ∀ g sp, (∃ j, j ≤ 9 ∧ Held P w K mg base j g sp) → ∃ k, Room k (A.deeper (envOfC "perform" (defScope s_perform) s.heap.objs.size f cdv)) ∧ Held P w K mg base k g sp := fun g sp ⟨j, hj, hh⟩ => ⟨j, hr.mono hj, hh⟩
  refine ⟨_, pss_cons (ps_if (pt_cmpR op_eq (pe_callB call_len_seq (by rfl) T.len PySem.boot_len (pa_cons (pv 2) pa_nil)) pe_int (nomark _))
      (pss_one (ps_ret (pe_callG (S := fun f sp => ∃ j, j ≤ 9 ∧ Held P w K mg base j f sp) hA (pe_ix ix_kdictI (pe_glob (v := .ref d0) rfl m0 rfl) (pv 1) (fun _ _ => rfl)) (pa_cons (pv 0) pa_nil)))) pss_nil)
    (pss_cons (ps_if (pt_cmpR op_eq (pe_callB call_len_seq (by rfl) T.len PySem.boot_len (pa_cons (pv 2) pa_nil)) pe_int (nomark _))
      (pss_one (ps_ret (pe_callG (S := fun f sp => ∃ j, j ≤ 9 ∧ Held P w K mg base j f sp) hA (pe_ix ix_kdictI (pe_glob (v := .ref d1) rfl m1 rfl) (pv 1) (fun _ _ => rfl)) (pa_cons (pv 0) (pa_cons (pe_ix ix_list (pv 2) pe_int (fun _ _ => rfl)) pa_nil))))) pss_nil)
    (pss_one (ps_ret (pe_callG (S := fun f sp => ∃ j, j ≤ 9 ∧ Held P w K mg base j f sp) hA (pe_ix ix_kdictI (pe_glob (v := .ref d2) rfl m2 rfl) (pv 1) (fun _ _ => rfl)) (pa_cons (pv 0) (pa_cons (pe_ix ix_list (pv 2) pe_int (fun _ _ => rfl)) (pa_cons (pe_ix ix_list (pv 2) pe_int (fun _ _ => rfl)) pa_nil))))))), ?_⟩
  refine ⟨_, rfl, q, _, rfl, .inl (SqL.of hq), rfl, _, rfl, ?_⟩
  rcases parse_form hp hc with ⟨rfl, kk⟩ | ⟨x, c', rfl, kk, rfl⟩ | ⟨x, y, c', rfl, kk, rfl⟩
  · obtain ⟨f, j, hj, hd, hh⟩ := R0 p c kk
    refine ite2 (fun _ => ?_) (fun z => absurd (decide_eq_true (by rfl)) z)
    exact ⟨_, rfl, d0, p, _, rfl, rfl, hd, f, _, rfl, ⟨j, hj, hh⟩, _, rfl, a, sl, dl, zs, tt, tt', r, [], rfl, rfl, hT, hG, hst, k⟩
  · obtain ⟨f, j, hj, hd, hh⟩ := R1 p c' kk
    refine ite2 (fun z => absurd (of_decide_eq_true z) (by intro e; cases e)) (fun _ => ?_)
    refine ⟨_, rfl, q, _, rfl, .inl (SqL.of hq), rfl, _, rfl, ?_⟩
    refine ite2 (fun _ => ?_) (fun z => absurd (decide_eq_true (by rfl)) z)
    exact ⟨_, rfl, d1, p, _, rfl, rfl, hd, f, _, rfl, ⟨j, hj, hh⟩, _, rfl, _, rfl, q, _, _, _, rfl, rfl, SqL.of hq, atI_nat (j := 0) rfl, a, sl, dl, zs, tt, tt', r, [x], rfl, rfl, hT, hG, hst, k⟩
  · obtain ⟨f, j, hj, hd, hh⟩ := R2 p c' kk
    refine ite2 (fun z => absurd (of_decide_eq_true z) (by intro e; cases e)) (fun _ => ?_)
    refine ⟨_, rfl, q, _, rfl, .inl (SqL.of hq), rfl, _, rfl, ?_⟩
    refine ite2 (fun z => absurd (of_decide_eq_true z) (by intro e; cases e)) (fun _ => ?_)
    exact ⟨_, rfl, d2, p, _, rfl, rfl, hd, f, _, rfl, ⟨j, hj, hh⟩, _, rfl, _, rfl, q, _, _, _, rfl, rfl, SqL.of hq, atI_nat (j := 0) rfl, _, rfl, q, _, _, _, rfl, rfl, SqL.of hq, atI_nat (j := 1) rfl,
      a, sl, dl, zs, tt, tt', r, [x, y], rfl, rfl, hT, hG, hst, k⟩
end
end Ct
set_option Elab.async false
set_option maxRecDepth 100000
set_option maxHeartbeats 4000000
namespace Ct
open PySem PySem.Spec PyProof.Rows L2
open Km561 (Ship Timetable)
abbrev s_init : Stmt := inClass (top 63) 0
abbrev s_answers : Stmt := top 67
theorem sc_init : FnScope ["self"] ["self"] (defScope s_init) := ⟨rfl, rfl, rfl, by decide +kernel, rfl, by decide +kernel, by decide +kernel⟩
theorem sc_answers : FnScope ["calls", "instance", "given_back", "position", "number", "end", "parameters", "answer"] ["calls"] (defScope s_answers) := ⟨rfl, rfl, rfl, by decide +kernel, rfl, by decide +kernel, by decide +kernel⟩
def spInit (C : Addr) : Sp := fun vs H Q _ => ∃ (p dx : Addr), vs = [.ref p] ∧ H p = some (.ins C dx []) ∧ ∀ (H' : Hp) (sl dl : Addr), (∃ dx, H' p = some (.ins C dx (iF sl dl))) → H' sl = some (.lst []) → H' dl = some (.lst []) → sl ≠ dl → H sl = none → H dl = none →
  (∀ b o, H b = some o → b ≠ p → H' b = some o) → Q .non H'
/-- how an object is made -/
def Maker (P : Program) (w : World) (K : PySem.W.Frag) (mg : Str → Option Value) (base : Heap) (C : Addr) : Prop := ∃ f fd, Mk K C f ∧ FnOk P w K mg base CX0 1 f fd ["self"] (spInit C) ∧ Binds K fd ["self"] [] ∧ mg "Instance" = some (.ref C)
/-! ### the state between two calls -/
def StAt (C : Addr) (H0 H : Hp) (g : Addr) (v : V) : Km561.State → Prop
  | none => v = .non
  | some tt => ∃ (a sl dl : Addr) (zs : List (Addr × Ship)), v = .ref a ∧ TT C H a sl dl zs tt ∧ Good tt ∧ (g ≠ a ∧ g ≠ sl ∧ g ≠ dl) ∧ (H0 a = none ∧ H0 sl = none ∧ H0 dl = none)
theorem StAt.same {C : Addr} {H0 H H' : Hp} {g : Addr} {v : V} {st : Km561.State} {xs : List V} (h : StAt C H0 H g v st) (hg : H g = some (.lst xs)) (s : ∀ b o, H b = some o → b ≠ g → H' b = some o) : StAt C H0 H' g v st := by
  cases st with
  | none => exact h
  | some tt =>
    obtain ⟨a, sl, dl, zs, e, T, G, ⟨n1, n2, n3⟩, f⟩ := h
    obtain ⟨dx, hi⟩ := T.ins
    refine ⟨a, sl, dl, zs, e, ⟨⟨dx, s _ _ hi (Ne.symm n1)⟩, ⟨s _ _ T.sh.lst (Ne.symm n2), fun z hz => ?_⟩, T.zs_, s _ _ T.dep (Ne.symm n3), T.ne⟩, G, ⟨n1, n2, n3⟩, f⟩
    have q := T.sh.at_ z hz
    exact s _ _ q (ne_of q hg (by intro z; cases z))
/-- between two turns of the loop -/
structure Turn (C : Addr) (ns : List Int) (a g : Addr) (H0 : Hp) (i : Nat) (σ : L2.St) (H : Hp) : Prop where
  ex : ∃ (out : List Int) (raw : List (List (List Int))) (f : Nat) (st : Km561.State) (vI : V) (v4 v5 v6 v7 : Option V), σ = [some (.ref a), some vI, some (.ref g), some (nV i), v4, v5, v6, v7] ∧ PyFlat.calls PyKm561.shape f (ns.drop i) = some raw ∧
    (∀ c ∈ raw, Km561Neutral.asked1 c = true) ∧ PyKm561.answers ns = out ++ PyFlat.told (PyFlat.played Km561Neutral.step st raw) ∧ H g = some (.lst (out.map V.int)) ∧ StAt C H0 H g vI st
  le : i ≤ ns.length
  same : Same H0 H
theorem asked_parse {c : List (List Int)} (h : Km561Neutral.asked1 c = true) : ∃ k, Km561Neutral.parseCall c = some k := by
  unfold Km561Neutral.asked1 at h
  split at h
  all_goals first
    | exact ⟨_, rfl⟩
    | cases h
theorem step_parse {s : Km561Neutral.S} {c : List (List Int)} {k : Km561.Call} (h : Km561Neutral.parseCall c = some k) : Km561Neutral.step s c = ((Km561.step s k).1, (Km561.step s k).2.num :: (Km561.step s k).2.nums) := by
  unfold Km561Neutral.step
  rw [h]
theorem not_create {p : Int} {xs : List Nat} {c : Km561.Call} (hp : p ≠ 0) (h : Km561Neutral.parseCall [p :: xs.map fun n : Nat => (n : Int)] = some c) : c ≠ .create := by
  rcases parse_form hp h with ⟨_, k⟩ | ⟨x, k', _, k, rfl⟩ | ⟨x, y, k', _, k, rfl⟩
  · cases k <;> exact Km561.Call.noConfusion
  · cases k <;> exact Km561.Call.noConfusion
  · cases k <;> exact Km561.Call.noConfusion
theorem step_none {c : Km561.Call} (h : c ≠ .create) : Km561.step none c = (none, Km561.error (-11)) := by
  cases c <;> first | rfl | exact absurd rfl h
theorem nats_of {xs : List Int} (h : ∀ x ∈ xs, 0 ≤ x) : ∃ ys : List Nat, xs = ys.map fun n : Nat => (n : Int) := by
  refine ⟨xs.map Int.toNat, ?_⟩
  rw [List.map_map]
  refine (List.map_id xs).symm.trans (List.map_congr_left fun x hx => ?_)
  have := h x hx
  show x = ((x.toNat : Nat) : Int)
  omega
theorem cut_calls (ns : List Int) {i n : Nat} (h : i + 1 + n ≤ ns.length) : cutV (ns.map V.int) (some ((i : Int) + 1)) (some ((i : Int) + 1 + (n : Int))) = ((ns.drop (i + 1)).take n).map V.int := by
  have e1 : ((i : Int) + 1) = ((i + 1 : Nat) : Int) := by omega
  have e2 : (((i + 1 : Nat) : Int) + (n : Int)) = ((i + 1 + n : Nat) : Int) := by omega
  unfold cutV
  rw [e1, e2, HT.sIx_nat, HT.sIx_nat, List.length_map, Nat.min_eq_left h, Nat.min_eq_left (show i + 1 ≤ ns.length by omega), List.map_take, List.map_drop]
  congr 1
  omega
/-- answers': a list of ints is handed in, the specification's list comes out -/
def spAns (K : PySem.W.Frag) : Sp := fun vs H Q _ => ∃ (a : Addr) (ns : List Int), vs = [.ref a] ∧ SqL K H a (ns.map V.int) ∧ (∀ x ∈ ns, 0 ≤ x) ∧ ns.length ≤ 150 ∧ PyKm561.answers_asked ns = true ∧
  ∀ (H' : Hp) (p : Addr), H' p = some (.lst ((PyKm561.answers ns).map V.int)) → Q (.ref p) H'
section
variable {P : Program} {w : World} {K : PySem.W.Frag} {mg : Str → Option Value} {base : Heap} {C : Addr}
theorem ok_init {f : Addr} {fd : FuncData} (F : Fun K "__init__" "Instance.__init__" s_init f fd) (T : Txt K mg C) : FnOk P w K mg base CX0 1 f fd ["self"] (spInit C) := by
  refine F.ok sc_init (fun vs H Q E h => ?_) (fun cdv A outer s H vs Q E hr h => ?_)
  · obtain ⟨p, dx, rfl, _⟩ := h
    rfl
  obtain ⟨p, dx, rfl, hp, k⟩ := h
  refine ⟨_, pss_cons (ps_fld (pv 0) (pe_lst pa_nil) rfl) (pss_one (ps_fld (pv 0) (pe_lst pa_nil) rfl)), ?_⟩
  refine ⟨by show 0 ≤ sizeLine; decide, fun sl hs => ?_⟩
  have nps : p ≠ sl := ne_of_none hp hs
  refine ⟨_, rfl, p, C, dx, _, rfl, by rw [upd_ne nps]; exact hp, T.cl, T.nS, by show 0 < 1000; decide, ?_⟩
  refine ⟨by show 0 ≤ sizeLine; decide, fun dl hd => ?_⟩
  obtain ⟨ndp, hd1⟩ := fresh_upd hd
  obtain ⟨nds, hd0⟩ := fresh_upd hd1
  refine ⟨_, rfl, p, C, dx, _, rfl, by rw [upd_ne (Ne.symm ndp), upd_same], T.cl, T.nD, by show 1 < 1000; decide, ?_⟩
  refine k _ sl dl ⟨dx, by rw [upd_same, iF_new]⟩ ?_ ?_ (Ne.symm nds) hs hd0 fun b o e nb => ?_
  · rw [upd_ne (Ne.symm nps), upd_ne (Ne.symm nds), upd_ne (Ne.symm nps), upd_same]
  · rw [upd_ne ndp, upd_same]
  · rw [upd_ne nb, upd_ne (ne_of_none e hd0), upd_ne nb, upd_ne (ne_of_none e hs)]
    exact e
theorem ok_answers {f : Addr} {fd : FuncData} (F : Fun K "answers" "answers" s_answers f fd) (T : Txt K mg C) (M : Maker P w K mg base C) (D1 : Def P w K mg base 10 "perform" ["instance", "number", "parameters"] (spPerform C))
    (pc : ∃ d, mg "PARAMETER_COUNTS" = some (.ref d) ∧ ∀ H, SqT K H d (PC.map V.int)) :
    FnOk P w K mg base CX0 11 f fd ["calls"] (spAns K) := by
  obtain ⟨fI, fdI, MI, GI, bI, mI⟩ := M
  obtain ⟨dp, mp, hpc⟩ := pc
  refine F.ok sc_answers (fun vs H Q E h => ?_) (fun cdv A outer s H vs Q E hr h => ?_)
  · obtain ⟨a, ns, rfl, _⟩ := h
    rfl
  obtain ⟨a, ns, rfl, hS, hnn, h150, hask, k⟩ := h
  have nd := sc_answers.nd
  refine ⟨_, pss_cons (ps_set (i := 1) nd rfl (Or.inl rfl) pe_non)
      (pss_cons (ps_set (i := 2) nd rfl (Or.inl rfl) (pe_lst pa_nil))
      (pss_cons (ps_set (i := 3) nd rfl (Or.inl rfl) pe_int)
      (pss_cons (ps_while PassesOwn.never (pt_cmpR op_lt (pv 3) (pe_callB call_len_seq (by rfl) T.len PySem.boot_len (pa_cons (pv 0) pa_nil)) (nomark _)) (pss_cons (ps_set (i := 4) nd rfl (Or.inl rfl) (pe_ix ix_list (pv 0) (pv 3) (fun _ _ => rfl)))
      (pss_cons (ps_set (i := 5) nd rfl (Or.inl rfl) (pe_op op_add (pe_op op_add (pv 3) pe_int) (pe_ix ix_tup (pe_glob (v := .ref dp) rfl mp rfl) (pv 4) (fun _ _ => rfl))))
      (pss_cons (ps_set (i := 6) nd rfl (Or.inl rfl) (pe_slice sl_list (pv 0) (po_some (pe_op op_add (pv 3) pe_int)) (po_some (pv 5))))
      (C8.pss_cut (ps_if (pt_cmpR op_eq (pv 4) (pe_conF T.create) (nomark _)) (pss_cons (ps_set (i := 1) nd rfl (Or.inl rfl) (pe_make0 MI GI (hr.mono (by decide)) rfl mI bI .nil pass0))
      (pss_one (ps_set (i := 7) nd rfl (Or.inl rfl) (pe_lst (pa_cons pe_int pa_nil))))) (pss_one (ps_if (pt_cmp (pc_isN (pv 1))) (pss_one (ps_set (i := 7) nd rfl (Or.inl rfl) (pe_lst (pa_cons (pe_conF T.noInst) pa_nil)))) (pss_one (ps_set (i := 7) nd rfl (Or.inl rfl) (pe_callD D1 hr (pa_cons (pv 1) (pa_cons (pv 4) (pa_cons (pv 6) pa_nil))))))))) (pss_cons (ps_expr (pe_bm PySem.F.plainAttrs_list PySem.F.slot_list_append PySem.F.type_list_append mt_append (pv 2) (pa_cons (pe_callB call_len_seq (by rfl) T.len PySem.boot_len (pa_cons (pv 7) pa_nil)) pa_nil)))
      (pss_cons (ps_expr (pe_bm PySem.F.plainAttrs_list PySem.F.slot_list_extend PySem.F.type_list_extend mt_extend (pv 2) (pa_cons (pv 7) pa_nil)))
      (pss_one (ps_set (i := 3) nd rfl (Or.inl rfl) (pv 5))))))))))
      (pss_one (ps_ret (pv 2)))))), ?_⟩
  obtain ⟨raw0, hraw0, _, hall0, hans0, hlen0⟩ := asked_iff hask
  have hsz : ∀ {n : Nat}, n ≤ (PyKm561.answers ns).length → n < sizeLine := fun {n} h => Nat.lt_of_le_of_lt (Nat.le_trans h hlen0) (by decide)
  refine ⟨Nat.zero_le _, fun g hg => ?_⟩
  have sg : Same H (upd H g (.lst [])) := same_upd hg
  refine ⟨fun m σ H' => ∃ i, m = ns.length - i ∧ Turn C ns a g H i σ H', ⟨_, 0, rfl, ⟨[], raw0, _, none, .non, none, none, none, none, rfl, hraw0, hall0, hans0, upd_same, rfl⟩, Nat.zero_le _, sg⟩, ?_⟩
  rintro m σ H1 ⟨i, rfl, ⟨out, raw, fu, st, vI, v4, v5, v6, v7, rfl, hraw, hall, hans, hgo, hst⟩, hle, sm⟩
  have hS1 := sm.seq hS
  refine ⟨_, rfl, _, rfl, a, _, rfl, .inl hS1, _, _, rfl, rfl, _, rfl, ?_⟩
  rw [List.length_map]
  refine ite2 (fun c => ?_) (fun c => ?_)
  · have hlt : i < ns.length := by
      have := of_decide_eq_true c
      omega
    obtain ⟨p, hpi⟩ : ∃ p, ns[i]? = some p := ⟨_, List.getElem?_eq_getElem hlt⟩
    have hdr : ns.drop i = p :: ns.drop (i + 1) := by
      rw [List.drop_eq_getElem_cons hlt]
      rw [List.getElem?_eq_getElem hlt] at hpi
      cases hpi
      rfl
    rw [hdr] at hraw
    obtain ⟨n, raw', f', hp0, hp25, hPC, hnl, rfl, hraw'⟩ := calls_cons hraw
    rw [List.drop_drop] at hraw'
    rw [List.length_drop] at hnl
    obtain ⟨ys, hys⟩ := nats_of (xs := (ns.drop (i + 1)).take n) fun x hx => hnn x (List.mem_of_mem_drop (List.mem_of_mem_take hx))
    have hask1 := hall _ (List.mem_cons_self ..)
    obtain ⟨kc, hkc⟩ := asked_parse hask1
    have hpn : p = ((p.toNat : Nat) : Int) := by omega
    refine ⟨fun σ' H' => ∃ i', ns.length - i' < ns.length - i ∧ Turn C ns a g H i' σ' H', fun σ' H' ⟨i', h1, h2⟩ => ⟨_, h1, i', rfl, h2⟩, ?_⟩
    -- number, end, parameters
    refine ⟨_, rfl, _, rfl, a, _, _, V.int p, rfl, rfl, hS1, atI_nat (by rw [List.getElem?_map, hpi]; rfl), ?_⟩
    refine ⟨_, rfl, _, _, rfl, rfl, _, rfl, dp, _, _, V.int (n : Int), rfl, rfl, hpc H1, ?_, _, _, rfl, rfl, ?_⟩
    · rw [hpn]
      exact atI_nat (by rw [List.getElem?_map, hPC]; rfl)
    refine ⟨_, rfl, _, rfl, _, _, rfl, rfl, _, rfl, _, rfl, _, rfl, a, _, rfl, hS1, fun q hq => ?_⟩
    rw [cut_calls ns (by omega), hys]
    have s1 : Same H1 (upd H1 q (.lst ((ys.map fun n : Nat => (n : Int)).map V.int))) := same_upd hq
    have ngq : g ≠ q := ne_of_none hgo hq
    have hcall : Km561Neutral.step st [p :: (ns.drop (i + 1)).take n] = ((Km561.step st kc).1, (Km561.step st kc).2.num :: (Km561.step st kc).2.nums) := step_parse hkc
    -- the call, then what follows
    refine ⟨fun σ' H' => ∃ (vI' : V) (p' : Addr), σ' = [some (.ref a), some vI', some (.ref g), some (nV i), some (.int p), some (.int ((i : Int) + 1 + (n : Int))), some (.ref q), some (.ref p')] ∧ StAt C H H' g vI' (Km561.step st kc).1 ∧ Same H H' ∧ H' g = some (.lst (out.map V.int)) ∧
      H' p' = some (.lst (((Km561.step st kc).2.num :: (Km561.step st kc).2.nums).map V.int)) ∧ p' ≠ g, ?_, ?_⟩
    · refine ⟨_, rfl, rfl, _, rfl, ite2 (fun c0 => ?_) (fun c0 => ?_)⟩
      · -- create
        have e0 : p = 0 := by
          have := of_decide_eq_true c0
          cases this
          rfl
        subst e0
        have en : n = 0 := by
          have : some (0 : Int) = some (n : Int) := hPC
          have := Option.some.inj this
          omega
        subst en
        rw [List.take_zero] at hkc
        cases hkc
        intro x dx hx hdx nxd
        have sx := sm.trans s1
        refine ⟨x, dx, rfl, upd_same, fun H2 sl dl h1 h2 h3 h4 h5 h6 h7 => ⟨rfl, ?_⟩⟩
        obtain ⟨k1, hs1⟩ : sl ≠ x ∧ upd H1 q (.lst ((ys.map fun n : Nat => (n : Int)).map V.int)) sl = none := by
          obtain ⟨n1, n2⟩ := fresh_upd h5
          exact ⟨n1, (fresh_upd n2).2⟩
        obtain ⟨k2, hd1⟩ : dl ≠ x ∧ upd H1 q (.lst ((ys.map fun n : Nat => (n : Int)).map V.int)) dl = none := by
          obtain ⟨n1, n2⟩ := fresh_upd h6
          exact ⟨n1, (fresh_upd n2).2⟩
        have s2 : Same (upd H1 q (.lst ((ys.map fun n : Nat => (n : Int)).map V.int))) H2 := Same.made hx hdx h7
        have hg2 := s2 _ _ (s1 _ _ hgo)
        refine ⟨by show 1 ≤ sizeLine; decide, fun r hr2 => ?_⟩
        have s3 := Same.upd (o := .lst [.int 0]) s2 hr2
        refine ⟨_, r, rfl, ⟨x, sl, dl, [], rfl, ⟨?_, ⟨?_, fun z hz => by cases hz⟩, rfl, ?_, h4⟩, good_new, ⟨ne_of_none (s1 _ _ hgo) hx, ne_of_none (s1 _ _ hgo) hs1, ne_of_none (s1 _ _ hgo) hd1⟩, ?_, ?_, ?_⟩, sx.trans s3, s3 _ _ (s1 _ _ hgo), upd_same, Ne.symm (ne_of_none hg2 hr2)⟩
        · obtain ⟨dx', h1⟩ := h1
          exact ⟨dx', by rw [upd_ne (ne_of_none h1 hr2)]; exact h1⟩
        · rw [upd_ne (ne_of_none h2 hr2)]
          exact h2
        · rw [upd_ne (ne_of_none h3 hr2)]
          exact h3
        · exact sx.free hx
        · exact sx.free hs1
        · exact sx.free hd1
      · have hp : p ≠ 0 := fun e => c0 (decide_eq_true (by rw [e]))
        have hkc' : Km561Neutral.parseCall [p :: ys.map fun n : Nat => (n : Int)] = some kc := by
          rw [← hys]
          exact hkc
        have hnc := not_create hp hkc'
        cases st with
        | none =>
          obtain rfl : vI = .non := hst
          rw [step_none hnc]
          refine ⟨_, rfl, _, rfl, iteT ⟨by show 1 ≤ sizeLine; decide, fun r hr2 => ?_⟩⟩
          have s3 := Same.upd (o := .lst [.int (-11)]) s1 hr2
          exact ⟨_, r, rfl, rfl, sm.trans s3, s3 _ _ hgo, upd_same, Ne.symm (ne_of_none (s1 _ _ hgo) hr2)⟩
        | some tt =>
          obtain ⟨aI, sl, dl, zs, rfl, hT, hG, ⟨n1, n2, n3⟩, f1, f2, f3⟩ := hst
          obtain ⟨tt', r, hstep, hG'⟩ := step_good hG kc
          rw [hstep]
          refine ⟨_, rfl, _, rfl, iteF ?_⟩
          refine ⟨_, rfl, _, rfl, _, rfl, aI, sl, dl, q, zs, tt, tt', r, kc, p, ys, rfl, ?_, hT.same s1, hG, hp, hkc', hstep, fun H2 sl' dl' zs' p' hT' e1 e2 kp hp' hn' => ?_⟩
          · rw [upd_same, nV_int]
          have f2' : H sl' = none := by
            rcases e1 with e | e
            · rw [e]
              exact f2
            · exact (sm.trans s1).free e
          have f3' : H dl' = none := by
            rcases e2 with e | e
            · rw [e]
              exact f3
            · exact (sm.trans s1).free e
          have n2' : g ≠ sl' := by
            rcases e1 with e | e
            · rw [e]
              exact n2
            · exact ne_of_none (s1 _ _ hgo) e
          have n3' : g ≠ dl' := by
            rcases e2 with e | e
            · rw [e]
              exact n3
            · exact ne_of_none (s1 _ _ hgo) e
          refine ⟨_, p', rfl, ⟨aI, sl', dl', zs', rfl, hT', hG', ⟨n1, n2', n3'⟩, f1, f2', f3'⟩, fun b o e => ?_, kp _ _ (s1 _ _ hgo) n1 n2 n3, hp', Ne.symm (ne_of_none (s1 _ _ hgo) hn')⟩
          have e' := s1 _ _ (sm _ _ e)
          exact kp _ _ e' (ne_of_none e f1) (ne_of_none e f2) (ne_of_none e f3)
    · rintro σ' H2 ⟨vI', p', rfl, hst', sm2, hg2, hp', npg⟩
      generalize hnums : (Km561.step st kc).2.num :: (Km561.step st kc).2.nums = nums at hcall hp'
      have hans' := hans
      rw [played_cons, hcall] at hans'
      dsimp only at hans'
      have hl : out.length + (nums.length + 1) ≤ (PyKm561.answers ns).length := by
        rw [hans', List.length_append, List.length_append, List.length_cons]
        omega
      refine ⟨_, rfl, .inl ⟨rfl, _, SqL.of hg2⟩, _, rfl, p', _, rfl, .inl (SqL.of hp'), g, _, _, rfl, rfl, hg2, hsz (by rw [List.length_map]; omega), ?_⟩
      refine ⟨_, rfl, .inl ⟨rfl, _, SqL.of upd_same⟩, _, rfl, g, p', _, _, rfl, rfl, upd_same, by rw [upd_ne npg]; exact hp', Nat.le_of_lt (hsz (by rw [List.length_append, List.length_map, List.length_map]; show out.length + 1 + nums.length ≤ _; omega)), ?_⟩
      have kp2 : ∀ (b : Addr) (o : HO) (x y : HO), H2 b = some o → b ≠ g → upd (upd H2 g x) g y b = some o := fun b o x y e nb => by
        rw [upd_ne nb, upd_ne nb]
        exact e
      refine ⟨_, rfl, i + 1 + n, by omega, ⟨out ++ ((nums.length : Int) :: nums), raw', f', (Km561.step st kc).1, vI', some (.int p), some (.int ((i : Int) + 1 + (n : Int))), some (.ref q), some (.ref p'), ?_, hraw', fun c hc => hall c (List.mem_cons_of_mem _ hc), ?_, ?_, hst'.same hg2 fun b o e nb => kp2 b o _ _ e nb⟩, by omega, fun b o e => kp2 b o _ _ (sm2 _ _ e) (ne_of_none e hg)⟩
      · show [_, _, _, some (V.int ((i : Int) + 1 + (n : Int))), _, _, _, _] = [_, _, _, some (V.int ((i + 1 + n : Nat) : Int)), _, _, _, _]
        rw [show ((i : Int) + 1 + (n : Int)) = ((i + 1 + n : Nat) : Int) by omega]
      · rw [hans', List.append_assoc]
      · rw [upd_same, List.length_map, List.map_append, List.map_cons, List.append_assoc]
        rfl
  · have e : i = ns.length := by
      have : ¬ i < ns.length := fun z => c (decide_eq_true (by omega))
      omega
    subst e
    rw [List.drop_length] at hraw
    have er := calls_nil hraw
    subst er
    refine ⟨_, rfl, k H1 g ?_⟩
    rw [hans, hgo]
    show _ = some (HO.lst ((out ++ []).map V.int))
    rw [List.append_nil]
end
end Ct
set_option Elab.async false
set_option maxRecDepth 100000
set_option maxHeartbeats 4000000
/-! The least of a list of tuples: the walk of the built-in over a heap whose old objects stand still. -/
namespace Ct
open PySem PySem.Spec PyProof.Rows
/-- while the heap h0 is kept, the item of place i is held against that of an earlier place j: bt i j -/
def LtKept (prog : Program) (w : World) (A : Around) (h0 : Heap) (P : Nat → Value → Prop) (bt : Nat → Nat → Bool) : Prop :=
  ∀ (i j : Nat) (x y : Value) (s : Shared) (Q E : Value → Shared → Prop), j < i → P i x → P j y → (∀ b o, h0.get? b = some o → s.heap.get? b = some o) → Q (.bool (bt i j)) s → wpAny (model prog w) A (richCompare .Lt x y) Q E s
theorem best_le (bt : Nat → Nat → Bool) : ∀ k, argBest bt k ≤ k
  | 0 => Nat.le_refl 0
  | k + 1 => by
    have ih := best_le bt k
    unfold argBest
    split <;> omega
theorem best_yes {bt : Nat → Nat → Bool} {k : Nat} (h : bt (k + 1) (argBest bt k) = true) : argBest bt (k + 1) = k + 1 := by
  simp only [argBest, h, if_true]
theorem best_no {bt : Nat → Nat → Bool} {k : Nat} (h : bt (k + 1) (argBest bt k) = false) : argBest bt (k + 1) = argBest bt k := by
  simp only [argBest, h, Bool.false_eq_true, if_false]
section
variable {prog : Program} {w : World} {A : Around} {R : Result → Shared → Prop} {I : Addr} {fp wr : List Addr} {n : Nat} {P : Nat → Value → Prop} {St : Nat → Heap → Prop}
theorem least_loop (W : Walks prog w A.in1 I fp wr n P St) (bt : Nat → Nat → Bool) (h0 : Heap) (hc : LtKept prog w A.in1 h0 P bt) (S : Addr) (hSf : S ∉ fp) (ho : ∀ b o, h0.get? b = some o → b ∉ wr ∧ b ≠ S) :
    ∀ (k j : Nat) (s : Shared) (y : Value) (c : Nat), n - (j + 1) = k → j + 1 ≤ n → St (j + 1) s.heap → P (argBest bt j) y → (∀ b o, h0.get? b = some o → s.heap.get? b = some o) →
    s.heap.get? S = some { cls := .type "list", dict := none, data := .seq #[y, y] c, slots := #[] } →
    (∀ v h tk, P (argBest bt (n - 1)) v → (∀ b o, h0.get? b = some o → h.get? b = some o) → R (.ok (.ret v)) { s with heap := h, toks := tk }) →
    codeAny (model prog w) A (.builtin "min.loop" ⟨[.ref I, .none, .ref S], []⟩) R s := by
  have hw : S ∉ wr := fun h => hSf (W.sub _ h)
  have nm : (toString "min" ++ toString ".loop" : String) = "min.loop" := by decide
  intro k
  induction k with
  | zero =>
    intro j s y c e hj st py hk hS hR
    have en : j + 1 = n := by omega
    refine codeAny_builtin F.entry_min_loop ?_
    rw [Around.under_plainId F.plain_min_loop _]
    show wpAny _ A.in1 (seqItems? (.ref S) >>= _) _ _ s
    refine wpAny_bind (wpAny_seqItems hS rfl ?_)
    show wpAny _ A.in1 (tryCatch (pyNext (.ref I)) _ >>= _) _ _ s
    refine wpAny_bind (wpAny_tryCatch (W.done s _ _ (en ▸ st) fun h tk kk => ?_))
    have hS2 := kk S _ hw hS
    show wpAny _ A.in1 (updateSeq S (fun _ => #[]) >>= _) _ _ _
    refine wpAny_bind ?_
    refine wpAny_updateSeq hS2 rfl (wpAny_bind (wpAny_letGo (wpAny_pure ?_)))
    refine hR y _ tk (by rw [← en]; exact py) fun b o e0 => ?_
    obtain ⟨q1, q2⟩ := ho b o e0
    exact (Heap.get?_update_other _ _ (Ne.symm q2)).trans (kk b o q1 (hk b o e0))
  | succ k ih =>
    intro j s y c e hj st py hk hS hR
    have lt : j + 1 < n := by omega
    refine codeAny_builtin F.entry_min_loop ?_
    rw [Around.under_plainId F.plain_min_loop _]
    show wpAny _ A.in1 (seqItems? (.ref S) >>= _) _ _ s
    refine wpAny_bind (wpAny_seqItems hS rfl ?_)
    show wpAny _ A.in1 (tryCatch (pyNext (.ref I)) _ >>= _) _ _ s
    refine wpAny_bind (wpAny_tryCatch (W.item (j + 1) s _ _ lt st fun v h tk pv st2 kk => ?_))
    have hS2 := kk S _ hw hS
    have hk2 : ∀ b o, h0.get? b = some o → h.get? b = some o := fun b o e0 => kk b o (ho b o e0).1 (hk b o e0)
    show wpAny _ A.in1 (tryCatch (holding [v, v] (richCompare .Lt v y >>= _)) _ >>= _) _ _ _
    refine wpAny_bind (wpAny_tryCatch (wpAny_holding (wpAny_bind (hc (j + 1) (argBest bt j) v y _ _ _ (Nat.lt_succ_of_le (best_le bt j)) pv py hk2 ?_))))
    refine wpAny_bind (wpAny_holding (wpAny_truthy_bool ?_))
    refine wpAny_bind (wpAny_letGo (wpAny_pure ?_))
    cases eb : bt (j + 1) (argBest bt j) with
    | true =>
      simp only [if_true]
      refine wpAny_bind ?_
      refine wpAny_updateSeq hS2 rfl (wpAny_bind (wpAny_letGo ?_))
      rw [nm]
      refine wpAny_pure ⟨plainId_quiet F.plain_min_loop _, ih (j + 1) _ v _ (by omega) lt (W.frame _ _ _ st2 fun b hb o e1 => ?_) (by rw [best_yes eb]; exact pv) (fun b o e0 => ?_) (Heap.get?_update_self _ hS2 rfl) hR⟩
      · exact (Heap.get?_update_other _ _ (fun z : S = b => hSf (by rw [z]; exact hb))).trans e1
      · exact (Heap.get?_update_other _ _ (Ne.symm (ho b o e0).2)).trans (hk2 b o e0)
    | false =>
      simp only [Bool.false_eq_true, if_false]
      refine wpAny_bind (wpAny_letGo ?_)
      rw [nm]
      exact wpAny_pure ⟨plainId_quiet F.plain_min_loop _, ih (j + 1) _ y c (by omega) lt st2 (by rw [best_no eb]; exact py) hk2 hS2 hR⟩
theorem least_first (W : Walks prog w A.in1 I fp wr n P St) (bt : Nat → Nat → Bool) (h0 : Heap) (hc : LtKept prog w A.in1 h0 P bt) (S : Addr) (hSf : S ∉ fp) (ho : ∀ b o, h0.get? b = some o → b ∉ wr ∧ b ≠ S) (hn : 0 < n) {s : Shared} {c : Nat} (st : St 0 s.heap)
    (hk : ∀ b o, h0.get? b = some o → s.heap.get? b = some o) (hS : s.heap.get? S = some { cls := .type "list", dict := none, data := .seq #[] c, slots := #[] })
    (hR : ∀ v h tk, P (argBest bt (n - 1)) v → (∀ b o, h0.get? b = some o → h.get? b = some o) → R (.ok (.ret v)) { s with heap := h, toks := tk }) :
    codeAny (model prog w) A (.builtin "min.loop" ⟨[.ref I, .none, .ref S], []⟩) R s := by
  have hw : S ∉ wr := fun h => hSf (W.sub _ h)
  have nm : (toString "min" ++ toString ".loop" : String) = "min.loop" := by decide
  refine codeAny_builtin F.entry_min_loop ?_
  rw [Around.under_plainId F.plain_min_loop _]
  show wpAny _ A.in1 (seqItems? (.ref S) >>= _) _ _ s
  refine wpAny_bind (wpAny_seqItems hS rfl ?_)
  show wpAny _ A.in1 (tryCatch (pyNext (.ref I)) _ >>= _) _ _ s
  refine wpAny_bind (wpAny_tryCatch (W.item 0 s _ _ hn st fun v h tk pv st2 kk => ?_))
  have hS2 := kk S _ hw hS
  show wpAny _ A.in1 (updateSeq S (fun _ => #[v, v]) >>= _) _ _ _
  refine wpAny_bind ?_
  refine wpAny_updateSeq hS2 rfl ?_
  rw [nm]
  refine wpAny_pure ⟨plainId_quiet F.plain_min_loop _, least_loop W bt h0 hc S hSf ho _ 0 _ v _ rfl hn (W.frame _ _ _ st2 fun b hb o e1 => ?_) pv (fun b o e0 => ?_) (Heap.get?_update_self _ hS2 rfl) hR⟩
  · exact (Heap.get?_update_other _ _ (fun z : S = b => hSf (by rw [z]; exact hb))).trans e1
  · exact (Heap.get?_update_other _ _ (Ne.symm (ho b o e0).2)).trans (kk b o (ho b o e0).1 (hk b o e0))
end
section
variable {prog : Program} {w : World} {A : Around} {E : Value → Shared → Prop} {s : Shared}
theorem least_list {l : Addr} {its : Array Value} {bt : Nat → Nat → Bool} {Q : Value → Shared → Prop} (hh : A.handled = none) (hl : s.heap.IsList l its) (hn : 0 < its.size)
    (hc : LtKept prog w A.in1 s.heap (fun i v => its[i]? = some v) bt)
    (h : ∀ v hp tk, its[argBest bt (its.size - 1)]? = some v → (∀ b o, s.heap.get? b = some o → hp.get? b = some o) → Q v { s with heap := hp, toks := tk }) :
    wpAny (model prog w) A (call (.builtin "min") [.ref l]) Q E s := by
  have nm : (toString "min" ++ toString ".loop" : String) = "min.loop" := by decide
  have lt : l < s.heap.objs.size := by obtain ⟨_, e, _⟩ := hl; exact Heap.lt_size e
  refine call_function_tree F.kind_min F.plain_min F.entry_min (F.args_min1 _) ?_
  show wpAny _ A.in1 (Builtin.Builtins.bindParams "min" ["key", "default"] 0 ⟨[], []⟩ >>= _) _ _ s
  refine wpAny_bind (wpAny_of_eq (show Builtin.Builtins.bindParams "min" ["key", "default"] 0 ⟨[], []⟩ = pure [none, none] from rfl) ?_)
  refine wpAny_bind (wpAny_pure ?_)
  refine wpAny_bind (wpAny_pyIter_list hl ?_)
  refine wpAny_bind (wpAny_newObj_type ?_)
  rw [nm]
  have z1 : (s.heap.push { cls := .type "list_iterator", data := .fields #[.ref l, .int 0 0] }).objs.size = s.heap.objs.size + 1 := Heap.size_push ..
  have old : ∀ b o, s.heap.get? b = some o → b < s.heap.objs.size := fun b o e => Heap.lt_size e
  refine wpAny_pure ⟨plainId_quiet F.plain_min_loop _, least_first (Walks.list (A := A.in1) hh s.heap.objs.size l (Nat.ne_of_lt lt) its) bt s.heap hc _ ?_ (fun b o e => ⟨?_, ?_⟩) hn
    ⟨⟨_, Heap.get?_push_of_some _ (Heap.get?_push_size _ rfl), rfl, rfl⟩, (hl.push _).push _⟩ (fun b o e => Heap.get?_push_of_some _ (Heap.get?_push_of_some _ e)) (Heap.get?_push_size _ rfl) fun v hp tk pv kk => ?_⟩
  · intro hm
    rcases List.mem_cons.mp hm with e | hm
    · exact absurd (z1.symm.trans e) (Nat.succ_ne_self _)
    · have e := List.mem_singleton.mp hm
      rw [← e] at lt
      exact absurd (Nat.lt_trans (Nat.lt_succ_self _) (Nat.lt_of_le_of_lt (Nat.le_of_eq z1.symm) lt)) (Nat.lt_irrefl _)
  · intro hm
    exact absurd (List.mem_singleton.mp hm) (Nat.ne_of_lt (old b o e))
  · intro q
    exact absurd (old b o e) (by rw [q]; exact fun z => absurd (Nat.lt_trans (Nat.lt_succ_self _) (Nat.lt_of_le_of_lt (Nat.le_of_eq z1.symm) z)) (Nat.lt_irrefl _))
  · exact h v hp tk pv kk
end
end Ct
set_option Elab.async false
set_option maxRecDepth 100000
set_option maxHeartbeats 4000000
namespace Ct
open PySem PySem.Spec PyProof.Rows L2
/-- the second item of a pair, as it stands: a whole number, or a tuple of whole numbers that begins with it -/
def SecR (h : Heap) : Bool → Value → Int → Prop
  | false, v, m => ∃ t, v = .int m t
  | true, v, m => ∃ (q : Addr) (its : List Value) (ms : List Int), v = .ref q ∧ h.IsTuple q its.toArray ∧ IntsAre its (m :: ms)
theorem tup_kept {h h' : Heap} {q : Addr} {its : Array Value} (x : h.IsTuple q its) (k : ∀ b o, h.get? b = some o → h'.get? b = some o) : h'.IsTuple q its := by
  obtain ⟨o, e, r⟩ := x
  exact ⟨o, k _ _ e, r⟩
theorem SecR.kept {h h' : Heap} {b : Bool} {v : Value} {m : Int} (x : SecR h b v m) (k : ∀ b o, h.get? b = some o → h'.get? b = some o) : SecR h' b v m := by
  cases b with
  | false => exact x
  | true =>
    obtain ⟨q, its, ms, e, t, i⟩ := x
    exact ⟨q, its, ms, e, tup_kept t k, i⟩
theorem int_place {its : List Value} {ns : List Int} (i : IntsAre its ns) (j : Nat) (h : j < its.toArray.size) : ∃ t, its.toArray[j] = .int (ns.getD j 0) t :=
  PyProof.Rows.IntsAre.int_at i _ _ (by simp at h; simp [h])
theorem beq_dec (a b : Int) : (a == b) = decide (a = b) := by
  by_cases q : a = b
  · rw [decide_eq_true q]
    exact beq_iff_eq.mpr q
  · rw [decide_eq_false q]
    exact beq_eq_false_iff_ne.mpr q
theorem sec_eq {A : Around} {s : Shared} {b : Bool} {x y : Value} {m n : Int} (hu : A.units < cLine) (hx : SecR s.heap b x m) (hy : SecR s.heap b y n) (ne : m ≠ n) : SeqAt.EqAt A s x y false := by
  cases b with
  | false =>
    obtain ⟨t, rfl⟩ := hx
    obtain ⟨u, rfl⟩ := hy
    have z := SeqAt.EqAt.int_int (A := A) (s := s) m t n u
    rw [beq_dec, decide_eq_false ne] at z
    exact z
  | true =>
    obtain ⟨q, its, ms, rfl, ht, hi⟩ := hx
    obtain ⟨q2, its2, ms2, rfl, ht2, hi2⟩ := hy
    have l1 : its.toArray.size = ms.length + 1 := by rw [List.size_toArray]; exact hi.length
    have l2 : its2.toArray.size = ms2.length + 1 := by rw [List.size_toArray]; exact hi2.length
    refine SeqAt.EqAt.of_refs (fun e => ?_) ?_
    · subst e
      obtain ⟨o, e1, _, k1, d1⟩ := ht
      obtain ⟨o2, e2, _, k2, d2⟩ := ht2
      rw [e1] at e2
      have eo := Option.some.inj e2
      subst eo
      rw [d1] at d2
      injection d2 with d3 _
      obtain ⟨t, a1⟩ := int_place hi 0 (by omega)
      obtain ⟨u, a2⟩ := int_place hi2 0 (by omega)
      have a3 : its.toArray[0]? = its2.toArray[0]? := by rw [d3]
      rw [Array.getElem?_eq_getElem (by omega), Array.getElem?_eq_getElem (by omega), a1, a2] at a3
      have a4 := Option.some.inj a3
      injection a4 with a5 _
      exact ne a5
    · have z := SeqAt.RcAt.tuples (A := A) (s := s) (e := fun j => decide ((m :: ms).getD j 0 = (n :: ms2).getD j 0)) ht ht2 hu fun j h1 h2 => by
        obtain ⟨t, et⟩ := int_place hi j h1
        obtain ⟨u, eu⟩ := int_place hi2 j h2
        rw [et, eu, ← beq_dec]
        exact SeqAt.EqAt.int_int _ _ _ _
      have e0 : ((List.range (min its.toArray.size its2.toArray.size)).all (fun j => decide ((m :: ms).getD j 0 = (n :: ms2).getD j 0)) && its.toArray.size == its2.toArray.size) = false := by
        rw [Bool.and_eq_false_iff]
        refine .inl ?_
        cases c : (List.range (min its.toArray.size its2.toArray.size)).all (fun j => decide ((m :: ms).getD j 0 = (n :: ms2).getD j 0)) with
        | false => rfl
        | true =>
          have := of_decide_eq_true (List.all_eq_true.mp c 0 (List.mem_range.mpr (by omega)))
          exact absurd this ne
      rw [e0] at z
      exact z
theorem sec_lt {A : Around} {s : Shared} {b : Bool} {x y : Value} {m n : Int} (hu : A.units + 1 < cLine) (hx : SecR s.heap b x m) (hy : SecR s.heap b y n) (lt : n < m) : Ob.RcOp .Lt A s x y false := by
  cases b with
  | false =>
    obtain ⟨t, rfl⟩ := hx
    obtain ⟨u, rfl⟩ := hy
    have z := Ob.RcOp.lt_int (A := A) (s := s) m n t u
    rw [decide_eq_false (by omega)] at z
    exact z
  | true =>
    obtain ⟨q, its, ms, rfl, ht, hi⟩ := hx
    obtain ⟨q2, its2, ms2, rfl, ht2, hi2⟩ := hy
    have l1 : its.toArray.size = ms.length + 1 := by rw [List.size_toArray]; exact hi.length
    have l2 : its2.toArray.size = ms2.length + 1 := by rw [List.size_toArray]; exact hi2.length
    have z := Ob.RcOp.tuples_lt (A := A) (s := s) (e := fun j => decide ((m :: ms).getD j 0 = (n :: ms2).getD j 0)) (r := fun j => decide ((m :: ms).getD j 0 < (n :: ms2).getD j 0)) ht ht2 (by omega) (fun j h1 h2 => by
      obtain ⟨t, et⟩ := int_place hi j h1
      obtain ⟨u, eu⟩ := int_place hi2 j h2
      rw [et, eu, ← beq_dec]
      exact SeqAt.EqAt.int_int _ _ _ _) (fun j h1 h2 _ => by
      obtain ⟨t, et⟩ := int_place hi j h1
      obtain ⟨u, eu⟩ := int_place hi2 j h2
      rw [et, eu]
      exact Ob.RcOp.lt_int _ _ _ _)
    have e0 : Ob.lexAt (fun j => decide ((m :: ms).getD j 0 = (n :: ms2).getD j 0)) (fun j => decide ((m :: ms).getD j 0 < (n :: ms2).getD j 0)) (decide (its.toArray.size < its2.toArray.size)) 0 (min its.toArray.size its2.toArray.size) = false := by
      rw [l1, l2, show min (ms.length + 1) (ms2.length + 1) = min ms.length ms2.length + 1 by omega, Ob.lexAt_succ, if_neg (by
        show ¬ decide (m = n) = true
        rw [decide_eq_true_eq]
        omega)]
      exact decide_eq_false (show ¬ m < n by omega)
    rw [e0] at z
    exact z
theorem pair_less {A : Around} {s : Shared} {b : Bool} {l q : Addr} {x y : Value} {m n v u : Int} {t t2 : Tok} (hu : A.units + 2 < cLine) (hl : s.heap.IsTuple l #[.int v t, x]) (hq : s.heap.IsTuple q #[.int u t2, y]) (hx : SecR s.heap b x m) (hy : SecR s.heap b y n) (lt : n < m) :
    Ob.RcOp .Lt A s (.ref l) (.ref q) (decide (v < u)) := by
  have z := Ob.RcOp.tuples_lt (A := A) (s := s) (e := fun j => match j with
    | 0 => decide (v = u)
    | _ => false) (r := fun j => match j with
    | 0 => decide (v < u)
    | _ => false) hl hq (by omega) (fun j h1 h2 => by
      match j, h1, h2 with
      | 0, _, _ =>
        show SeqAt.EqAt A.in1 s (.int v t) (.int u t2) (decide (v = u))
        rw [← beq_dec]
        exact SeqAt.EqAt.int_int _ _ _ _
      | 1, _, _ => exact sec_eq (by show A.units + 1 < cLine; omega) hx hy (by omega)
      | j + 2, h1, _ => exact absurd h1 (by show ¬ j + 2 < 2; omega)) (fun j h1 h2 e => by
      match j, h1, h2 with
      | 0, _, _ => exact Ob.RcOp.lt_int _ _ _ _
      | 1, _, _ => exact sec_lt (by show A.units + 1 + 1 < cLine; omega) hx hy lt
      | j + 2, h1, _ => exact absurd h1 (by show ¬ j + 2 < 2; omega))
  have e0 : Ob.lexAt (fun j => match j with
    | 0 => decide (v = u)
    | _ => false) (fun j => match j with
    | 0 => decide (v < u)
    | _ => false) (decide ((#[Value.int v t, x] : Array Value).size < (#[Value.int u t2, y] : Array Value).size)) 0 (min (#[Value.int v t, x] : Array Value).size (#[Value.int u t2, y] : Array Value).size) = decide (v < u) := by
    show Ob.lexAt _ _ _ 0 2 = _
    rw [Ob.lexAt_succ]
    show (if decide (v = u) = true then false else decide (v < u)) = decide (v < u)
    by_cases c : v = u
    · rw [if_pos (decide_eq_true c), decide_eq_false (by omega)]
    · rw [if_neg (fun z => c (of_decide_eq_true z))]
  rw [e0] at z
  exact z
/-! ### the rule -/
structure MinRow where
  p : Addr
  w : Int
  y : V
  m : Int
def Sec (K : PySem.W.Frag) (H : Hp) : Bool → V → Int → Prop
  | false, y, m => y = .int m
  | true, y, m => ∃ (q : Addr) (ms : List Int), y = .ref q ∧ SqT K H q ((m :: ms).map V.int)
def lessW (rs : List MinRow) : Nat → Nat → Bool := fun i j => decide ((rs.map (·.w)).getD i 0 < (rs.map (·.w)).getD j 0)
/-- min(xs), xs a list of pairs whose second items rise -/
def rMinT (K : PySem.W.Frag) (b : Bool) : List V → Hp → VK → Prop := fun vs H Q => ∃ (a : Addr) (rs : List MinRow), vs = [V.ref a] ∧ SqL K H a (rs.map fun r => V.ref r.p) ∧ 0 < rs.length ∧
  (∀ r ∈ rs, SqT K H r.p [.int r.w, r.y] ∧ Sec K H b r.y r.m) ∧ rs.Pairwise (fun x y => x.m < y.m) ∧
  ∀ r, rs[argBest (lessW rs) (rs.length - 1)]? = some r → Q (.ref r.p) H
theorem refs_back {α : Type} {f : α → Addr} : ∀ {rs : List α} {us : List Value}, Vals (rs.map fun r => V.ref (f r)) us → us = rs.map fun r => Value.ref (f r)
  | [], _, h => by
    cases h
    rfl
  | r :: rs, _, h => by
    cases h with
    | cons x y =>
      cases x
      rw [refs_back y]
      rfl
variable {X : Cx}
theorem cr_minT (b : Bool) (hc : X.calm = true) (hu : X.A.units + 64 < cLine) : CallR X (.builtin "min") (rMinT X.K b) := by
  intro pins s σ H vs us Q I r h
  obtain ⟨a, rs, rfl, hs, hne, hr, hp, q⟩ := h
  obtain ⟨its, rv, hl, _⟩ := I.list hs
  rw [Vals.ref1 r]
  have ei := refs_back rv
  have at_ : ∀ (i : Nat) (v : Value), its.toArray[i]? = some v → ∃ r, rs[i]? = some r ∧ v = .ref r.p := fun i v e => by
    rw [ei, List.getElem?_toArray, List.getElem?_map] at e
    obtain ⟨r, h1, h2⟩ := Option.map_eq_some_iff.mp e
    exact ⟨r, h1, h2.symm⟩
  have ez : its.toArray.size = rs.length := by rw [ei, List.size_toArray, List.length_map]
  have low : ∀ r ∈ rs, ∃ t v, s.heap.IsTuple r.p #[.int r.w t, v] ∧ SecR s.heap b v r.m := fun r m => by
    obtain ⟨h1, h2⟩ := hr r m
    obtain ⟨is, r1, p1, _⟩ := I.tuple h1
    cases r1 with
    | cons x1 x2 =>
      obtain ⟨t, rfl⟩ := x1
      cases x2 with
      | cons y1 y2 =>
        cases y2
        refine ⟨t, _, p1, ?_⟩
        cases b with
        | false =>
          have e : r.y = .int r.m := h2
          rw [e] at y1
          obtain ⟨u, rfl⟩ := y1
          exact ⟨u, rfl⟩
        | true =>
          obtain ⟨q2, ms, e, h3⟩ := h2
          rw [e] at y1
          cases y1
          obtain ⟨is2, r2, p2, _⟩ := I.tuple h3
          exact ⟨q2, is2, ms, rfl, p2, ints_of_vals r2⟩
  have getw : ∀ (i : Nat) (r : MinRow), rs[i]? = some r → (rs.map (·.w)).getD i 0 = r.w := fun i r e => by
    rw [List.getD_eq_getElem?_getD, List.getElem?_map, e]
    rfl
  refine least_list (bt := lessW rs) (I.ok.hd hc) hl.isList (by omega) ?_ fun v hp2 tk hv hk => ?_
  · intro i j x y s2 Q2 E2 hij hx hy hk hQ
    obtain ⟨r1, e1, rfl⟩ := at_ i x hx
    obtain ⟨r2, e2, rfl⟩ := at_ j y hy
    obtain ⟨t1, v1, p1, c1⟩ := low r1 (List.mem_of_getElem? e1)
    obtain ⟨t2, v2, p2, c2⟩ := low r2 (List.mem_of_getElem? e2)
    have lt : r2.m < r1.m := by
      obtain ⟨a1, b1⟩ := List.getElem?_eq_some_iff.mp e1
      obtain ⟨a2, b2⟩ := List.getElem?_eq_some_iff.mp e2
      have := List.pairwise_iff_getElem.mp hp j i a2 a1 hij
      rw [b1, b2] at this
      exact this
    have z := pair_less (A := X.A.in1) (s := s2) (by show X.A.units + 1 + 2 < cLine; omega) (tup_kept p1 hk) (tup_kept p2 hk) (c1.kept hk) (c2.kept hk) lt
    refine z X.prog X.w E2 Q2 ?_
    unfold lessW at hQ
    rw [getw i r1 e1, getw j r2 e2] at hQ
    exact hQ
  · rw [ez] at hv
    obtain ⟨r1, e1, rfl⟩ := at_ _ v hv
    exact ⟨.ref r1.p, H, I.kept hk, rfl, q r1 e1⟩
end Ct
set_option Elab.async false
set_option maxRecDepth 100000
set_option maxHeartbeats 4000000
/-! set(xs), xs a list of whole numbers, with what sorted wants of a set -/
namespace Ct
open PySem PySem.Spec PyProof.Rows L2
/-- a set without members, as set() makes it -/
abbrev newSet (w : World) : Obj := { cls := .type "set", dict := none, data := .set #[] 0 (.fresh 0 0 (!w.params.followText "set-order")) }
set_option maxHeartbeats 6400000 in
theorem set_of_ints {P : Program} {w : World} {A : Around} {E : Value → Shared → Prop} {s : Shared} {l : Addr} {its : Array Value} (ns : List Int) {Q : Value → Shared → Prop} (hd : A.handled = none) (hl : s.heap.IsList l its) (hi : IntsAre its.toList ns) (few : ns.length + 1 < scanBound)
    (h : ∀ (h2 : Heap) (tk c : Nat), SetR w h2 s.heap.objs.size (fun j => decide (j ∈ ns)) c → c ≤ ns.length → (∀ b o, s.heap.get? b = some o → h2.get? b = some o) → Q (.ref s.heap.objs.size) { s with heap := h2, toks := tk }) :
    wpAny (model P w) A (call (.type "set") [.ref l]) Q E s := by
  have sz : its.size = ns.length := by
    have q := IntsAre.length hi
    rw [Array.length_toList] at q
    exact q
  obtain ⟨c0, tl, mro⟩ := F.called_set.mro
  have made := F.called_set.made
  have sub0 := F.called_set.sub
  refine wpAny_call (codeAny_of_tree ?_)
  show wpAny _ _ (callAny (.type "set") _) _ _ _
  refine wpAny_pure ⟨Code.quiet_builtin _ (by decide +kernel), codeAny_builtin F.entry_type_call ?_⟩
  rw [Around.under_plain (weight_type_call_type "set" [.ref l] []) rfl]
  have g1 := F.called_set.notType
  have g2 := F.called_set.canCreate
  have g3 := F.typeCall_set_1 (.ref l)
  repeat (any_goals (first | assumption | wp_step))
  refine codeAny_mono (code_set_led1 (.ref l) (E := E) (Q₁ := fun obj s1 => obj = .ref s.heap.objs.size ∧ s1 = { s with heap := s.heap.push (newSet w) }) ⟨rfl, rfl⟩) fun r s1 hr => ?_
  cases r with
  | error e => exact hr
  | ok fl =>
    cases fl with
    | ret obj =>
      obtain ⟨rfl, rfl⟩ := hr
      have hS : (s.heap.push (newSet w)).get? s.heap.objs.size = some (newSet w) := Heap.get?_push_size _ rfl
      have hT : Shared.TypeIs { s with heap := s.heap.push (newSet w) } (.ref s.heap.objs.size) "set" := ⟨_, hS, rfl⟩
      have g4 := F.called_set.init.lookup
      have g5 := F.called_set.init.bind (.ref s.heap.objs.size)
      repeat (any_goals (first | assumption | wp_step))
      refine codeAny_mono (codeAny_call_builtin (R := wants (fun r s2 => r = .none ∧ ∃ h2 tk c, s2 = { s with heap := h2, toks := tk } ∧ SetR w h2 s.heap.objs.size (fun j => decide (j ∈ ns)) c ∧ c ≤ ns.length ∧ (∀ b o, s.heap.get? b = some o → h2.get? b = some o)) E)
        F.called_set.init.plain F.entry_set_init (check_set_init_1 hT ?_)) fun r2 s2 hr2 => ?_
      · obtain ⟨ol, hol, e1, nl, e2⟩ := hl
        obtain ⟨ocls, odict, odata, oslots⟩ := ol
        simp only at e1 e2
        subst e1; subst e2
        have hol2 : (s.heap.push (newSet w)).get? l = some { cls := .type "list", dict := odict, data := .seq its nl, slots := oslots } := Heap.get?_push_of_some _ hol
        have g6 := F.sub_list_set
        have g7 := F.sub_list_frozenset
        have g8 : (Value.type "list" == Value.type "dict") = false := by decide
        have hl1 : (s.heap.push (newSet w)).IsList l its := ⟨_, hol2, rfl, nl, rfl⟩
        unfold Builtin.«set.__init__» noKeywords Builtin.Frozenset.updateFrom
        generalize ePI : pyIter = PI
        wp_walk
        subst ePI
        refine wpAny_pyIter_list hl1 ?_
        refine wpAny_bind (wpAny_runValue ?_)
        have lS : l < s.heap.objs.size := Heap.lt_size hol
        have hd3 : A.in1.in1.in1.handled = none := by simp [hd]
        have neI : l ≠ (s.heap.push (newSet w)).objs.size := by
          rw [Heap.size_push]
          exact Nat.ne_of_lt (Nat.lt_succ_of_lt lS)
        have nSf : s.heap.objs.size ∉ [(s.heap.push (newSet w)).objs.size, l] := by
          rw [Heap.size_push]
          simp only [List.mem_cons, List.not_mem_nil, or_false, not_or]
          exact ⟨Nat.ne_of_lt (Nat.lt_succ_self _), Nat.ne_of_gt lS⟩
        have hv : ∀ (i : Nat) (v : Value), its[i]? = some v → ∃ k t, ns[i]? = some k ∧ v = .int k t := fun i v hv => by
          have li : i < ns.length := by rw [← sz]; exact (Array.getElem?_eq_some_iff.mp hv).1
          obtain ⟨t, e⟩ := PyProof.Rows.IntsAre.int_at hi i v (by rw [Array.getElem?_toList]; exact hv)
          refine ⟨ns[i], t, List.getElem?_eq_getElem li, ?_⟩
          rw [e, List.getD_eq_getElem?_getD, List.getElem?_eq_getElem li] <;> rfl
        refine set_update_ints ((Walks.list hd3 _ l neI its).toS) s.heap.objs.size nSf ns sz few hv (its.size - 0) 0 _ (by omega) (Nat.zero_le _) ⟨⟨_, Heap.get?_push_size _ rfl, rfl, rfl⟩, (hl1.push _)⟩ ?atS ?atR
        case atS => exact ⟨0, Nat.le_refl 0, setR_new_at (Heap.get?_push_of_some _ hS)⟩
        case atR =>
          intro s3 c3 hm hc3 hS3
          obtain ⟨h3, gg, dd, t3, oo⟩ := s3
          have e3 : gg = s.gens := hm.gens
          have e4 : dd = s.drawn := hm.drawn
          have e5 : oo = s.os := hm.os
          subst e3; subst e4; subst e5
          show wpAny _ _ _ _ _ _
          refine wpAny_pure ?_
          show wpAny _ _ (ret Value.none) _ _ _
          rw [sz] at hc3
          refine wpAny_pure ⟨rfl, h3, t3, c3, rfl, hS3, hc3, fun b o e => ?_⟩
          have b0 : b < s.heap.objs.size := Heap.lt_size e
          have b2 : b ≠ (s.heap.push (newSet w)).objs.size := by
            rw [Heap.size_push]
            exact Nat.ne_of_lt (Nat.lt_succ_of_lt b0)
          refine hm.heap b o ?_ (Heap.get?_push_of_some _ (Heap.get?_push_of_some _ e))
          simp only [List.mem_cons, List.not_mem_nil, or_false, not_or]
          exact ⟨Nat.ne_of_lt b0, b2⟩
      · cases r2 with
        | error e => exact hr2
        | ok fl2 =>
          cases fl2 with
          | ret r =>
            obtain ⟨rfl, h3, tk, c3, rfl, hS3, hc3, k3⟩ := hr2
            repeat (any_goals (first | assumption | wp_step))
            exact h _ _ _ hS3 hc3 k3
          | _ => exact hr2.elim
    | _ => exact hr.elim
variable {X : Cx}
/-- set(xs), xs a list of whole numbers -/
def rSetI (K : PySem.W.Frag) (w : World) : List V → Hp → VK → Prop := fun vs H Q => ∃ (l : Addr) (ns : List Int), vs = [V.ref l] ∧ SqL K H l (ns.map V.int) ∧ ns.length ≤ 1000 ∧
  ∀ a c, H a = none → c ≤ ns.length → Q (.ref a) (upd H a (SetO w a (fun j => decide (j ∈ ns)) c))
theorem cr_setI (hc : X.calm = true) : CallR X (.type "set") (rSetI X.K X.w) := by
  intro pins s σ H vs us Q I r h
  obtain ⟨l, ns, rfl, hl, hf, q⟩ := h
  rw [Vals.ref1 r]
  obtain ⟨its, rv, pl, hz⟩ := I.list hl
  have hn : H s.heap.objs.size = none := I.hok.fresh (Nat.le_refl _)
  refine set_of_ints (P := X.prog) (w := X.w) ns (I.ok.hd hc) pl.isList (by simpa using ints_of_vals rv) (by unfold scanBound; omega) fun h2 tk c R cl k => ?_
  exact ⟨.ref s.heap.objs.size, upd H s.heap.objs.size (SetO X.w s.heap.objs.size (fun j => decide (j ∈ ns)) c), I.laid (t' := tk) k (Nat.le_refl _) (setO_new R), rfl, q _ c hn cl⟩
end Ct
set_option Elab.async false
set_option maxRecDepth 100000
set_option maxHeartbeats 4000000
namespace Ct
open PySem PySem.Spec PyProof.Rows L2
/-! ### xs.count(n) where xs holds whole numbers and None -/
def optI : Option Nat → V
  | none => .non
  | some n => .int (n : Int)
def eqo (k : Int) : Value → Bool
  | .int n _ => n == k
  | _ => false
theorem eqo_gives {A : Around} {s : Shared} {k : Int} {t : Tok} : ∀ {ds : List (Option Nat)} {us : List Value}, Vals (ds.map optI) us → ∀ y ∈ us, SeqAt.EqAt A s y (.int k t) (eqo k y)
  | [], _, h => by
    cases h
    intro y m
    cases m
  | d :: ds, _, h => by
    cases h with
    | cons a b =>
      intro y m
      rcases List.mem_cons.mp m with e | m
      · subst e
        cases d with
        | none =>
          cases a
          exact SeqAt.EqAt.none_int k t
        | some n =>
          obtain ⟨u, rfl⟩ := a
          exact (MeetsSeq.EqGives.int _ k u t).at A s
      · exact eqo_gives b y m
theorem eqo_count {n : Nat} : ∀ {ds : List (Option Nat)} {us : List Value}, Vals (ds.map optI) us → us.countP (eqo (n : Int)) = ds.count (some n)
  | [], _, h => by
    cases h
    rfl
  | d :: ds, _, h => by
    cases h with
    | cons a b =>
      have ih := eqo_count (n := n) b
      rw [List.countP_cons, List.count_cons, ih]
      congr 1
      cases d with
      | none =>
        cases a
        rfl
      | some m =>
        obtain ⟨u, rfl⟩ := a
        show (if ((m : Int) == (n : Int)) = true then 1 else 0) = _
        by_cases c : m = n
        · subst c
          simp
        · have c2 : ¬ (m : Int) = (n : Int) := by omega
          simp [c, c2]
variable {X : Cx}
def rCntO (K : PySem.W.Frag) : V → List V → Hp → VK → Prop := fun x xs H Q => ∃ (p : Addr) (ds : List (Option Nat)) (n : Nat), x = .ref p ∧ xs = [.int (n : Int)] ∧ SqL K H p (ds.map optI) ∧ Q (.int ((ds.count (some n) : Nat) : Int)) H
theorem mt_countO : MtR X "list.count" (rCntO X.K) := by
  intro pins s σ H x xs v us Q I rx rxs h
  obtain ⟨p, ds, n, rfl, rfl, hs, q⟩ := h
  cases rx
  obtain ⟨u, rfl, ru⟩ := rxs.one
  obtain ⟨t, rfl⟩ := ru
  obtain ⟨its, rv, ⟨⟨cls, dd, data, sl⟩, m, ho, e1, hdn, e2⟩, hlen⟩ := I.list hs
  simp only at e1 e2
  subst e1 e2
  refine call_meets PySem.F.slot_list_count ⟨_, ho, rfl⟩ PySem.F.entry_list_count (PySem.F.args_list_count_2 _ _)
    (SeqAt.list_countAt p its.toArray m dd sl (.int (n : Int) t) (eqo (n : Int))) ⟨ho, fun y hy => eqo_gives rv y (by simpa using hy), ?_⟩
  refine ⟨.int ((ds.count (some n) : Nat) : Int), H, I.tok _, ⟨s.toks, ?_⟩, q⟩
  show Value.int ((its.toArray.toList.countP (eqo (n : Int)) : Nat) : Int) s.toks = Value.int ((ds.count (some n) : Nat) : Int) s.toks
  rw [show its.toArray.toList.countP (eqo (n : Int)) = ds.count (some n) from eqo_count rv]
end Ct
set_option Elab.async false
set_option maxRecDepth 100000
set_option maxHeartbeats 2000000
/-! The optimum, row by row: what one more convoy makes of the rows behind. -/
namespace Ct
open Km561 (Ship Timetable)
def bestAt (tt : Timetable) (hs : List Nat) (c i : Nat) : Nat × List Nat := (Km561.optimalFrom tt hs c i).getD (0, [])
theorem best_of {tt : Timetable} {hs : List Nat} {c : Nat} (i : Nat) : Km561.optimalFrom tt hs (c + 1) i = some (bestAt tt hs (c + 1) i) := by
  obtain ⟨r, e⟩ := opt_some (tt := tt) (hours := hs) (c := c) i
  unfold bestAt
  rw [e]
  rfl
theorem best_end {tt : Timetable} {hs : List Nat} {c i : Nat} (h : hs.length ≤ i) : bestAt tt hs c i = (0, []) := by
  unfold bestAt
  rw [opt_done h]
  rfl
theorem best_one {tt : Timetable} {hs : List Nat} {i : Nat} (h : i < hs.length) : bestAt tt hs 1 i = (Km561.waitingUntil tt (hs.getD i 0) (hs.getD (hs.length - 1) 0), [hs.getD (hs.length - 1) 0]) := by
  obtain ⟨m, hm⟩ : ∃ m, hs.length - i = m + 1 := ⟨hs.length - i - 1, by omega⟩
  have h0 : ∀ k, k ≤ m → (List.range k).foldl (choice tt hs 0 i) none = none := by
    intro k
    induction k with
    | zero => intro _; rfl
    | succ k ih =>
      intro hk
      rw [range_more, ih (by omega)]
      unfold choice
      rw [opt_zero (by omega)]
  have e : Km561.optimalFrom tt hs 1 i = some (Km561.waitingUntil tt (hs.getD i 0) (hs.getD (hs.length - 1) 0), [hs.getD (hs.length - 1) 0]) := by
    rw [opt_succ (by omega), hm, range_more, h0 m (Nat.le_refl m)]
    unfold choice
    rw [opt_done (by omega), show i + m = hs.length - 1 by omega]
    rfl
  unfold bestAt
  rw [e]
  rfl
/-- the choice of the first departure at the place j, with the best rows behind it -/
def rowOf (tt : Timetable) (hs : List Nat) (c i j : Nat) : Nat × List Nat :=
  (Km561.waitingUntil tt (hs.getD i 0) (hs.getD (i + j) 0) + (bestAt tt hs (c + 1) (i + j + 1)).1, hs.getD (i + j) 0 :: (bestAt tt hs (c + 1) (i + j + 1)).2)
def lessRow (tt : Timetable) (hs : List Nat) (c i : Nat) : Nat → Nat → Bool := fun a b => decide ((rowOf tt hs c i a).1 < (rowOf tt hs c i b).1)
theorem choice_row {tt : Timetable} {hs : List Nat} {c i : Nat} : ∀ m, (List.range (m + 1)).foldl (choice tt hs (c + 1) i) none = some (rowOf tt hs c i (PySem.argBest (lessRow tt hs c i) m))
  | 0 => by
    show choice tt hs (c + 1) i none 0 = _
    unfold choice
    rw [best_of]
    rfl
  | m + 1 => by
    rw [range_more, choice_row m]
    unfold choice
    rw [best_of]
    dsimp only
    by_cases q : (rowOf tt hs c i (m + 1)).1 < (rowOf tt hs c i (PySem.argBest (lessRow tt hs c i) m)).1
    · rw [if_pos (show Km561.waitingUntil tt (hs.getD i 0) (hs.getD (i + (m + 1)) 0) + (bestAt tt hs (c + 1) (i + (m + 1) + 1)).1 < _ from q)]
      have e : lessRow tt hs c i (m + 1) (PySem.argBest (lessRow tt hs c i) m) = true := decide_eq_true q
      rw [show PySem.argBest (lessRow tt hs c i) (m + 1) = m + 1 by simp only [PySem.argBest, e, if_true]]
      rfl
    · rw [if_neg (show ¬ Km561.waitingUntil tt (hs.getD i 0) (hs.getD (i + (m + 1)) 0) + (bestAt tt hs (c + 1) (i + (m + 1) + 1)).1 < _ from q)]
      have e : lessRow tt hs c i (m + 1) (PySem.argBest (lessRow tt hs c i) m) = false := decide_eq_false q
      rw [show PySem.argBest (lessRow tt hs c i) (m + 1) = PySem.argBest (lessRow tt hs c i) m by simp only [PySem.argBest, e, Bool.false_eq_true, if_false]]
theorem best_more {tt : Timetable} {hs : List Nat} {c i : Nat} (h : i < hs.length) : bestAt tt hs (c + 2) i = rowOf tt hs c i (PySem.argBest (lessRow tt hs c i) (hs.length - i - 1)) := by
  obtain ⟨m, hm⟩ : ∃ m, hs.length - i = m + 1 := ⟨hs.length - i - 1, by omega⟩
  have e : Km561.optimalFrom tt hs (c + 2) i = some (rowOf tt hs c i (PySem.argBest (lessRow tt hs c i) m)) := by
    rw [opt_succ (by omega), hm]
    exact choice_row m
  rw [hm]
  unfold bestAt
  rw [e]
  rfl
/-- the rows: what is best from each place on, and behind the last hour nothing -/
def rowsAt (tt : Timetable) (hs : List Nat) (c : Nat) : List (Nat × List Nat) := (List.range (hs.length + 1)).map (bestAt tt hs c)
theorem rows_get {tt : Timetable} {hs : List Nat} {c i : Nat} (h : i ≤ hs.length) : (rowsAt tt hs c)[i]? = some (bestAt tt hs c i) := by
  unfold rowsAt
  rw [List.getElem?_map, List.getElem?_range (by omega)]
  rfl
theorem rows_len {tt : Timetable} {hs : List Nat} {c : Nat} : (rowsAt tt hs c).length = hs.length + 1 := by
  unfold rowsAt
  rw [List.length_map, List.length_range]
theorem rows_snoc {tt : Timetable} {hs : List Nat} {c : Nat} : rowsAt tt hs c = (List.range hs.length).map (bestAt tt hs c) ++ [(0, [])] := by
  unfold rowsAt
  rw [List.range_succ, List.map_append, List.map_cons, List.map_nil, best_end (Nat.le_refl _)]
theorem optimal_best {tt : Timetable} {k : Nat} (h : k ≠ 0) : Km561.optimal tt k = some (bestAt tt (Km561.arrivalHours tt) k 0) := by
  obtain ⟨c, rfl⟩ := Nat.exists_eq_succ_of_ne_zero h
  exact best_of 0
/-! ### bounds: how much can be waited -/
theorem sum_bound {ss : List Ship} {f : Ship → Nat} {b : Nat} (h : ∀ s ∈ ss, f s ≤ b) : Km561.sum (ss.map f) ≤ ss.length * b := by
  induction ss with
  | nil => exact Nat.zero_le _
  | cons s r ih =>
    rw [List.map_cons, sum_cons, List.length_cons, Nat.add_mul, Nat.one_mul, Nat.add_comm (r.length * b)]
    exact Nat.add_le_add (h s (List.mem_cons_self ..)) (ih fun x hx => h x (List.mem_cons_of_mem _ hx))
/-! ### the ships of a group -/
def inGroup (a b : Nat) (s : Ship) : Bool := decide (a ≤ s.arrival) && decide (s.arrival ≤ b)
theorem first_one {n d : Nat} (h : n ≤ d) : firstFrom [d] n = some d := by
  unfold firstFrom
  rw [List.find?_cons, decide_eq_true h]
theorem group_sum (a b : Nat) : ∀ ss : List Ship, weighted (ss.filter (inGroup a b)) [b] = some (Km561.sum (ss.map fun s => if a ≤ s.arrival ∧ s.arrival ≤ b then s.weight * (b - s.arrival) else 0)) := by
  intro ss
  have h1 : (ss.filter (inGroup a b)).all (served [b]) = true := List.all_eq_true.mpr fun s m => by
    have q := (List.mem_filter.mp m).2
    unfold inGroup at q
    rw [Bool.and_eq_true] at q
    unfold served
    rw [first_one (of_decide_eq_true q.2)]
    rfl
  unfold weighted
  rw [if_pos h1]
  congr 1
  clear h1
  induction ss with
  | nil => rfl
  | cons s r ih =>
    rw [List.map_cons, sum_cons, List.filter_cons]
    by_cases c : a ≤ s.arrival ∧ s.arrival ≤ b
    · have e : inGroup a b s = true := by
        unfold inGroup
        rw [decide_eq_true c.1, decide_eq_true c.2]
        rfl
      rw [if_pos e, if_pos c, List.map_cons, sum_cons, ih]
      congr 1
      unfold wt
      rw [first_one c.2]
      rfl
    · have e : ¬ inGroup a b s = true := by
        unfold inGroup
        rw [Bool.and_eq_true, decide_eq_true_eq, decide_eq_true_eq]
        exact c
      rw [if_neg e, if_neg c, Nat.zero_add, ih]
theorem group_until (tt : Timetable) (a b : Nat) : weighted (tt.ships.filter (inGroup a b)) [b] = some (Km561.waitingUntil tt a b) := group_sum a b tt.ships
/-! ### departures in order, some of them twice -/
theorem next_mem {n : Nat} : ∀ (ds : List Nat) (b : Nat), (∀ d ∈ ds, b ≤ d) → ds.Pairwise (· ≤ ·) → ds.foldl (fun (best : Option Nat) (departure : Nat) => if departure < n then best else match best with
  | none => some departure
  | some other => some (min other departure)) (some b) = some b
  | [], b, _, _ => rfl
  | d :: r, b, h, hs => by
    have h1 := List.pairwise_cons.mp hs
    have hb := h d (List.mem_cons_self ..)
    rw [List.foldl_cons]
    have e : (if d < n then some b else match some b with
      | none => some d
      | some other => some (min other d)) = some b := by
      by_cases c : d < n
      · rw [if_pos c]
      · rw [if_neg c]
        show some (min b d) = some b
        rw [Nat.min_eq_left hb]
    rw [e]
    exact next_mem r b (fun x hx => h x (List.mem_cons_of_mem _ hx)) h1.2
/-- the first that is at least n depends on the members alone -/
theorem first_iff {n m : Nat} : ∀ {ds : List Nat}, ds.Pairwise (· ≤ ·) → (firstFrom ds n = some m ↔ m ∈ ds ∧ n ≤ m ∧ ∀ x ∈ ds, n ≤ x → m ≤ x)
  | [], _ => by
    unfold firstFrom
    simp
  | d :: r, hs => by
    have h1 := List.pairwise_cons.mp hs
    have ih := first_iff (n := n) (m := m) h1.2
    unfold firstFrom at ih ⊢
    rw [List.find?_cons]
    by_cases c : n ≤ d
    · rw [decide_eq_true c]
      constructor
      · intro e
        cases e
        refine ⟨List.mem_cons_self .., c, fun x hx _ => ?_⟩
        rcases List.mem_cons.mp hx with q | q
        · exact Nat.le_of_eq q.symm
        · exact h1.1 x q
      · rintro ⟨hm, hn, hx⟩
        have := hx d (List.mem_cons_self ..) c
        rcases List.mem_cons.mp hm with q | q
        · rw [q]
        · have := h1.1 m q
          rw [show d = m by omega]
    · rw [decide_eq_false c]
      show r.find? _ = some m ↔ _
      rw [ih]
      constructor
      · rintro ⟨hm, hn, hx⟩
        refine ⟨List.mem_cons_of_mem _ hm, hn, fun x hx' hn' => ?_⟩
        rcases List.mem_cons.mp hx' with q | q
        · omega
        · exact hx x q hn'
      · rintro ⟨hm, hn, hx⟩
        rcases List.mem_cons.mp hm with q | q
        · omega
        · exact ⟨q, hn, fun x hx' => hx x (List.mem_cons_of_mem _ hx')⟩
theorem first_members {n : Nat} {ds es : List Nat} (hd : ds.Pairwise (· ≤ ·)) (he : es.Pairwise (· ≤ ·)) (hm : ∀ x, x ∈ ds ↔ x ∈ es) : firstFrom ds n = firstFrom es n := by
  cases a : firstFrom ds n with
  | some m =>
    obtain ⟨h1, h2, h3⟩ := (first_iff hd).mp a
    exact ((first_iff he).mpr ⟨(hm m).mp h1, h2, fun x hx => h3 x ((hm x).mpr hx)⟩).symm
  | none =>
    cases b : firstFrom es n with
    | none => rfl
    | some m =>
      obtain ⟨h1, h2, h3⟩ := (first_iff he).mp b
      rw [(first_iff hd).mpr ⟨(hm m).mpr h1, h2, fun x hx => h3 x ((hm x).mp hx)⟩] at a
      cases a
theorem weighted_members {ss : List Ship} {ds es : List Nat} (hd : ds.Pairwise (· ≤ ·)) (he : es.Pairwise (· ≤ ·)) (hm : ∀ x, x ∈ ds ↔ x ∈ es) : weighted ss ds = weighted ss es := by
  have e1 : served ds = served es := funext fun s => by
    unfold served
    rw [first_members hd he hm]
  have e2 : wt ds = wt es := funext fun s => by
    unfold wt
    rw [first_members hd he hm]
  unfold weighted
  rw [e1, e2]
theorem lt_le {ds : List Nat} (h : ds.Pairwise (· < ·)) : ds.Pairwise (· ≤ ·) := h.imp fun a => Nat.le_of_lt a
theorem weighted_spec {tt : Timetable} {ds : List Nat} (h : ds.Pairwise (· < ·)) : weighted tt.ships ds = if Km561.allServed tt ds = false then none else some (Km561.totalWaiting tt ds) := by
  rw [served_is h, total_is h]
  unfold weighted
  cases tt.ships.all (served ds) <;> rfl
/-! ### the smallest number of departures within a limit; the cheapest -/
theorem find_first {p : Nat → Bool} {m : Nat} : ∀ {n : Nat}, m < n → p m = true → (∀ j, j < m → p j = false) → (List.range n).find? p = some m
  | 0, h, _, _ => by omega
  | n + 1, h, hp, hn => by
    rw [List.range_succ, List.find?_append]
    by_cases c : m < n
    · rw [find_first c hp hn]
      rfl
    · have e : m = n := by omega
      subst e
      rw [List.find?_eq_none.mpr fun x hx => by
        rw [hn x (List.mem_range.mp hx)]
        exact Bool.noConfusion]
      show List.find? p [m] = some m
      rw [List.find?_cons, hp]
def cost (tt : Timetable) (price i : Nat) : Nat := Km561.optimalWaiting tt (i + 1) + price * (i + 1)
theorem cheap_fold {tt : Timetable} {price : Nat} (h : ¬ Km561.shipCount tt = 0) : ∀ m, (List.range (m + 1)).foldl (fun (best : Nat × Nat) (i : Nat) =>
    if Km561.shipCount tt = 0 then (0, 0)
    else if Km561.optimalWaiting tt (i + 1) + price * (i + 1) < best.2
    then (i + 1, Km561.optimalWaiting tt (i + 1) + price * (i + 1)) else best) (1, Km561.optimalWaiting tt 1 + price) =
    (PySem.argBest (fun a b => decide (cost tt price a < cost tt price b)) m + 1, cost tt price (PySem.argBest (fun a b => decide (cost tt price a < cost tt price b)) m))
  | 0 => by
    show (if Km561.shipCount tt = 0 then (0, 0) else if _ < _ then _ else _) = (1, cost tt price 0)
    rw [if_neg h, if_neg (by rw [Nat.zero_add, Nat.mul_one]; exact Nat.lt_irrefl _)]
    unfold cost
    rw [Nat.zero_add, Nat.mul_one]
  | m + 1 => by
    rw [range_more, cheap_fold h m, if_neg h]
    dsimp only
    by_cases q : cost tt price (m + 1) < cost tt price (PySem.argBest (fun a b => decide (cost tt price a < cost tt price b)) m)
    · rw [if_pos (show Km561.optimalWaiting tt (m + 1 + 1) + price * (m + 1 + 1) < _ from q)]
      have e : (fun a b => decide (cost tt price a < cost tt price b)) (m + 1) (PySem.argBest (fun a b => decide (cost tt price a < cost tt price b)) m) = true := decide_eq_true q
      rw [show PySem.argBest (fun a b => decide (cost tt price a < cost tt price b)) (m + 1) = m + 1 by rw [PySem.argBest, if_pos e]]
      rfl
    · rw [if_neg (show ¬ Km561.optimalWaiting tt (m + 1 + 1) + price * (m + 1 + 1) < _ from q)]
      have e : ¬ (fun a b => decide (cost tt price a < cost tt price b)) (m + 1) (PySem.argBest (fun a b => decide (cost tt price a < cost tt price b)) m) = true := fun z => q (of_decide_eq_true z)
      rw [show PySem.argBest (fun a b => decide (cost tt price a < cost tt price b)) (m + 1) = PySem.argBest (fun a b => decide (cost tt price a < cost tt price b)) m by rw [PySem.argBest, if_neg e]]
theorem cheap_is {tt : Timetable} {price : Nat} (h : ¬ Km561.shipCount tt = 0) : Km561.cheapestCount tt price = (PySem.argBest (fun a b => decide (cost tt price a < cost tt price b)) 7 + 1, cost tt price (PySem.argBest (fun a b => decide (cost tt price a < cost tt price b)) 7)) := by
  unfold Km561.cheapestCount
  rw [if_neg h]
  exact cheap_fold h 7
end Ct
set_option Elab.async false
set_option maxRecDepth 100000
set_option maxHeartbeats 2000000
namespace Ct
open PySem PySem.Spec PyProof.Rows L2
open Km561 (Ship Timetable)
/-- a comprehension over a list: what is taken, what is left -/
theorem lc_pre {α : Type} {K : PySem.W.Frag} {a : Addr} {l : List α} {f : α → V} {g : TG} {tt : L2.TT} {te : TE} {vs : List Nat} {σ : L2.St} {H1 : Hp} {D : Addr} {Qd : Hp → Prop} (Pv : List α → Hp → Prop) (h0 : Pv [] (upd H1 D (.lst []))) (hl : ∀ pre H, Pv pre H → SqL K H a (l.map f))
    (hs : ∀ pre x post H, l = pre ++ x :: post → Pv pre H → g (f x) (wipe σ vs) H fun σ2 H2 => wipe σ2 vs = wipe σ vs ∧ tt σ2 H2 fun b H3 =>
      if b = true then te σ2 H3 fun y H4 => ∃ acc, H4 D = some (.lst acc) ∧ acc.length < sizeLine ∧ Pv (pre ++ [x]) (upd H4 D (.lst (acc ++ [y]))) else Pv (pre ++ [x]) H3) (hd : ∀ H, Pv l H → Qd H) :
    ∃ W : Nat → Nat → Hp → Prop, (∃ m, W 0 m (upd H1 D (.lst []))) ∧ ∀ i m H, W i m H →
      ((Itl K a).stop i H ∧ Qd H) ∨ ((Itl K a).go i H ∧ ∃ Nx : Hp → Prop, (∀ H', Nx H' → ∃ m', m' < m ∧ W (i + 1) m' H') ∧ ∀ x H', (Itl K a).yld i H x H' → g x (wipe σ vs) H' fun σ2 H2 => wipe σ2 vs = wipe σ vs ∧ tt σ2 H2 fun b H3 =>
        if b = true then te σ2 H3 fun y H4 => ∃ acc, H4 D = some (.lst acc) ∧ acc.length < sizeLine ∧ Nx (upd H4 D (.lst (acc ++ [y]))) else Nx H3) := by
  refine lc_list (K := K) (a := a) (xs := l.map f) (fun i H => Pv (l.take i) H) (by rw [List.take_zero]; exact h0) (fun i H _ p => hl _ H p) ?_ ?_
  · intro i y H hy p
    obtain ⟨x, hx, rfl⟩ := map_at hy
    have q := hs (l.take i) x (l.drop (i + 1)) H (getElem?_pre hx) p
    rw [← take_snoc hx] at q
    exact q
  · intro H p
    rw [List.length_map, List.take_length] at p
    exact hd H p
theorem yes_ {σ : L2.St} {H : Hp} {Q : Bool → Hp → Prop} (h : Q true H) : tYes σ H Q := h
theorem sw_cell {elt : Expr} {gs : List Comprehension} {scope : Scope} {pos py : Pos} {y : Str} {l : Nat} {env : Env} (hk : env.scope.kind = .function) (hy : env.scope.names.lookup y = some .cell) : swapsWith (.ListComp elt gs scope pos) (some (.Name y py)) l env = pure false := by
  have ky : env.kindOf y = some .cell := hy
  have hb : env.blockKind = .function := by
    unfold Env.blockKind
    rw [hk]
    rfl
  unfold swapsWith
  show pure (env.blockKind == .function && env.kindOf y == some .local && _ && _) = _
  rw [hb, ky]
  rfl
theorem at_last {hs : List Nat} (h : 0 < hs.length) : atI (hs.map nV) (-1) = some (nV (hs.getD (hs.length - 1) 0)) := by
  have ne : hs ≠ [] := fun e => by
    rw [e] at h
    exact Nat.lt_irrefl _ h
  have e := List.dropLast_concat_getLast ne
  have e2 : hs.getD (hs.length - 1) 0 = hs.getLast ne := by
    rw [List.getD_eq_getElem?_getD, List.getElem?_eq_getElem (by omega), List.getLast_eq_getElem]
    rfl
  rw [e2]
  conv => lhs; rw [← e, List.map_append, List.map_cons, List.map_nil]
  exact atI_last _ _
theorem strict_same {l m : List Int} (hl : l.Pairwise (· < ·)) (hm : m.Pairwise (· < ·)) (e : ∀ k, k ∈ l ↔ k ∈ m) : l = m := by
  refine sorted_same ((List.perm_ext_iff_of_nodup (hl.imp fun h => Int.ne_of_lt h) (hm.imp fun h => Int.ne_of_lt h)).mpr e) (hl.imp fun h => Int.le_of_lt h) (hm.imp fun h => Int.le_of_lt h)
abbrev s_each : Stmt := top 11
abbrev s_hours : Stmt := top 13
abbrev s_wait_for : Stmt := top 14
theorem sc_each : FnScope ["ships", "departures", "taken", "arrival", "weight", "departure"] ["ships", "departures"] (defScope s_each) := ⟨rfl, rfl, rfl, by decide +kernel, rfl, by decide +kernel, by decide +kernel⟩
theorem sc_hours : FnScope ["ships", "arrival", "weight"] ["ships"] (defScope s_hours) := ⟨rfl, rfl, rfl, by decide +kernel, rfl, by decide +kernel, by decide +kernel⟩
theorem sc_wait_for : FnScope ["ships", "first_hour", "departure", "group", "ship"] ["ships", "first_hour", "departure"] (defScope s_wait_for) := ⟨rfl, rfl, rfl, by decide +kernel, rfl, by decide +kernel, by decide +kernel⟩
/-! ### the arrival hours -/
def spHours : Sp := fun vs H Q _ => ∃ (sl : Addr) (zs : List (Addr × Ship)) (tt : Timetable), vs = [.ref sl] ∧ ShL H sl zs ∧ zs.map (·.2) = tt.ships ∧ zs.length ≤ 9 ∧
  ∀ H' p, Same H H' → H' p = some (.lst ((Km561.arrivalHours tt).map nV)) → H p = none → Q (.ref p) H'
section
variable {P : Program} {w : World} {K : PySem.W.Frag} {mg : Str → Option Value} {base : Heap} {C : Addr}
theorem def_hours (D : DefF K mg "arrival_hours" s_hours) (T : Txt K mg C) : Def P w K mg base 1 "arrival_hours" ["ships"] spHours := by
  refine Def.mk' D sc_hours (fun _ _ _ _ _ _ us hl => match us, hl with | [_], _ => rfl) (fun vs H Q E h => ?_) (fun f cdv A outer s H vs Q E hr h => ?_)
  · obtain ⟨sl, zs, tt, rfl, _⟩ := h
    rfl
  obtain ⟨sl, zs, tt, rfl, hZ, hz, h8, k⟩ := h
  refine ⟨_, pss_one (ps_ret (pe_callB (cr_sortedSet (by rfl)) (by rfl) T.sorted (by decide +kernel) (pa_cons (pe_callTy (cr_setI (by rfl)) (by rfl) T.set (by decide +kernel) (pa_cons
    (pe_lc (own := [("arrival", 1), ("weight", 2)]) (g := gTup K 2 (gCons (gName 1) (gCons (gName 2) gNil))) (by rfl) sc_hours.nd (pi_list (pv 0)) (blkOk_by (own := [("arrival", 1), ("weight", 2)]) (N := ["ships", "arrival", "weight"]) (sc := defScope s_hours) (by decide +kernel))
      (fun _ _ _ _ _ => pg_tup rfl (pgs_cons (pg_name (i := 1) sc_hours.nd rfl (Or.inl rfl)) (pgs_cons (pg_name (i := 2) sc_hours.nd rfl (Or.inl rfl)) pgs_nil))) (fun _ _ _ _ _ => pts_nil) (fun _ _ _ _ _ => pv 1)) pa_nil)) pa_nil))), ?_⟩
  refine ⟨_, rfl, sl, rfl, ⟨_, SqL.of hZ.lst⟩, fun D hD => lc_pre (K := K) (a := sl) (l := zs) (f := fun z => V.ref z.1) (fun pre H' => Same H H' ∧ H' D = some (.lst (pre.map fun z => nV z.2.arrival)))
    ⟨same_upd hD, upd_same⟩ (fun pre H' ⟨e, _⟩ => SqL.of (e _ _ hZ.lst)) ?_ ?_⟩
  · rintro pre z post H' hp ⟨sm, hd⟩
    have hzm : z ∈ zs := by rw [hp]; simp
    have hl := congrArg List.length hp
    rw [List.length_append, List.length_cons] at hl
    refine ⟨_, _, rfl, SqT.of (sm _ _ (hZ.at_ z hzm)), rfl, _, _, rfl, _, _, rfl, rfl, ?_⟩
    refine ⟨rfl, ?_⟩
    refine yes_ ?_
    refine iteT ⟨_, rfl, _, hd, Nat.lt_of_le_of_lt (show (pre.map fun z => nV z.2.arrival).length ≤ 9 by rw [List.length_map]; omega) (by decide), fun b o e => ?_, ?_⟩
    · rw [upd_ne (ne_of_none e hD)]
      exact sm _ _ e
    · rw [upd_same, List.map_append]
      rfl
  · rintro H' ⟨sm, hd⟩
    have e1 : (zs.map fun z => nV z.2.arrival) = (zs.map fun z => ((z.2.arrival : Nat) : Int)).map V.int := by
      rw [List.map_map]
      rfl
    rw [e1] at hd
    refine ⟨D, _, rfl, SqL.of hd, by rw [List.length_map]; omega, fun a c ha hc => ?_⟩
    rw [List.length_map] at hc
    refine ⟨a, _, c, rfl, upd_same, by omega, fun ns p h1 h2 h3 hp => ?_⟩
    have s2 := Same.upd sm ha (o := SetO w a (fun j => decide (j ∈ zs.map fun z => ((z.2.arrival : Nat) : Int))) c)
    have e2 : ns = (Km561.arrivalHours tt).map fun d : Nat => (d : Int) := by
      refine strict_same h1 (List.pairwise_map.mpr ((hours_sorted tt).imp fun {a b} hab => by omega)) fun k => ?_
      rw [h2, decide_eq_true_eq, List.mem_map, List.mem_map]
      constructor
      · rintro ⟨z, hz1, rfl⟩
        exact ⟨_, mem_hours.mpr ⟨z.2, by rw [← hz]; exact List.mem_map_of_mem hz1, rfl⟩, rfl⟩
      · rintro ⟨y, hy, rfl⟩
        obtain ⟨s, hs, rfl⟩ := mem_hours.mp hy
        rw [← hz] at hs
        obtain ⟨z, hz1, rfl⟩ := List.mem_map.mp hs
        exact ⟨z, hz1, rfl⟩
    refine k _ p (Same.upd s2 hp) ?_ (s2.free hp)
    rw [upd_same, e2, nV_int]
end
end Ct
set_option Elab.async false
set_option maxRecDepth 100000
set_option maxHeartbeats 2000000
namespace Ct
open PySem PySem.Spec PyProof.Rows L2
open Km561 (Ship Timetable)
theorem nine {n : Nat} (h : n ≤ 9) : n < sizeLine := Nat.lt_of_le_of_lt h (by decide)
def takenBy (zs : List (Addr × Ship)) (ds : List Nat) (d : Nat) : Nat := (zs.map fun z => firstFrom ds z.2.arrival).count (some d)
def spEach : Sp := fun vs H Q _ => ∃ (sl dl : Addr) (zs : List (Addr × Ship)) (ds : List Nat), vs = [.ref sl, .ref dl] ∧ ShL H sl zs ∧ H dl = some (.lst (ds.map nV)) ∧ zs.length ≤ 9 ∧ ds.length ≤ 9 ∧
  ∀ H' p, Same H H' → H' p = some (.lst (ds.map fun d => nV (takenBy zs ds d))) → H p = none → Q (.ref p) H'
def spWaitFor : Sp := fun vs H Q _ => ∃ (sl : Addr) (zs : List (Addr × Ship)) (tt : Timetable) (a b : Nat), vs = [.ref sl, nV a, nV b] ∧ ShL H sl zs ∧ zs.map (·.2) = tt.ships ∧ zs.length ≤ 9 ∧ (∀ z ∈ zs, z.2.weight ≤ 9) ∧
  ∀ H', Same H H' → Q (nV (Km561.waitingUntil tt a b)) H'
theorem optV_I : (fun d : Option Nat => optV d) = optI := by
  funext d
  cases d <;> rfl
section
variable {P : Program} {w : World} {K : PySem.W.Frag} {mg : Str → Option Value} {base : Heap} {C : Addr}
theorem def_wait_for (D : DefF K mg "waiting_for" s_wait_for) (T : Txt K mg C) (D1 : Def P w K mg base 3 "weighted_waiting" ["ships", "departures"] (spWeighted K)) : Def P w K mg base 4 "waiting_for" ["ships", "first_hour", "departure"] spWaitFor := by
  refine Def.mk' D sc_wait_for (fun _ _ _ _ _ _ us hl => match us, hl with | [_, _, _], _ => rfl) (fun vs H Q E h => ?_) (fun f cdv A outer s H vs Q E hr h => ?_)
  · obtain ⟨sl, zs, tt, a, b, rfl, _⟩ := h
    rfl
  obtain ⟨sl, zs, tt, a, b, rfl, hZ, hz, h8, h9, k⟩ := h
  refine ⟨_, pss_cons (ps_setLc (i := 3) (own := [("ship", 4)]) (g := gName 4) (by rfl) sc_wait_for.nd rfl rfl (sw_true rfl rfl rfl (by decide +kernel)) (pi_list (pv 0)) (blkOk_by (own := [("ship", 4)]) (N := ["ships", "first_hour", "departure", "group", "ship"]) (sc := defScope s_wait_for) (by decide +kernel))
      (fun _ _ _ _ _ => pg_name (i := 4) sc_wait_for.nd rfl (Or.inl rfl)) (fun _ _ _ _ _ => pts_one (pt_chain op_le op_le (pv 1) (pe_ix (r := rIxT K) ix_tup (pv 4) pe_int (fun _ _ => rfl)) (pv 2))) (fun _ _ _ _ _ => pv 4))
    (pss_one (ps_ret (pe_callD D1 hr (pa_cons (pv 3) (pa_cons (pe_lst (pa_cons (pv 2) pa_nil)) pa_nil))))), ?_⟩
  refine ⟨_, rfl, sl, rfl, ⟨_, SqL.of hZ.lst⟩, fun D hD => lc_pre (K := K) (a := sl) (l := zs) (f := fun z => V.ref z.1) (fun pre H' => Same H H' ∧ H' D = some (.lst ((pre.filter fun z => inGroup a b z.2).map fun z => V.ref z.1)))
    ⟨same_upd hD, upd_same⟩ (fun pre H' ⟨e, _⟩ => SqL.of (e _ _ hZ.lst)) ?_ ?_⟩
  · rintro pre z post H' hp ⟨sm, hd⟩
    have hzm : z ∈ zs := by rw [hp]; simp
    have hl := congrArg List.length hp
    rw [List.length_append, List.length_cons] at hl
    have hf : (pre.filter fun z => inGroup a b z.2).length ≤ 9 := Nat.le_trans (List.length_filter_le _ _) (by omega)
    have yes : inGroup a b z.2 = true → ∃ acc, H' D = some (.lst acc) ∧ acc.length < sizeLine ∧ (Same H (upd H' D (.lst (acc ++ [.ref z.1]))) ∧ upd H' D (.lst (acc ++ [.ref z.1])) D = some (.lst (((pre ++ [z]).filter fun z => inGroup a b z.2).map fun z => V.ref z.1))) := fun c => by
      refine ⟨_, hd, by rw [List.length_map]; exact nine hf, fun b o e => ?_, ?_⟩
      · rw [upd_ne (ne_of_none e hD)]
        exact sm _ _ e
      · rw [upd_same, List.filter_append, List.map_append, List.filter_cons, if_pos c]
        rfl
    have no : ¬ inGroup a b z.2 = true → (Same H H' ∧ H' D = some (.lst (((pre ++ [z]).filter fun z => inGroup a b z.2).map fun z => V.ref z.1))) := fun c => by
      refine ⟨sm, ?_⟩
      rw [List.filter_append, List.filter_cons, if_neg c, List.filter_nil, List.append_nil]
      exact hd
    have hi : ∀ q : Prop, inGroup a b z.2 = true ↔ a ≤ z.2.arrival ∧ z.2.arrival ≤ b := fun _ => by
      unfold inGroup
      rw [Bool.and_eq_true, decide_eq_true_eq, decide_eq_true_eq]
    refine ⟨rfl, ?_⟩
    refine ⟨_, rfl, _, rfl, z.1, _, _, _, rfl, rfl, SqT.of (sm _ _ (hZ.at_ z hzm)), atI_nat (j := 0) rfl, _, _, rfl, rfl, _, rfl, ite2 (fun c => ?_) (fun c => ?_)⟩
    · have c' := of_decide_eq_true c
      refine ⟨_, rfl, _, _, rfl, rfl, _, rfl, ite2 (fun c2 => ?_) (fun c2 => ?_)⟩
      · have c2' := of_decide_eq_true c2
        exact ⟨_, rfl, yes ((hi True).mpr ⟨by omega, by omega⟩)⟩
      · exact no fun x => c2 (decide_eq_true (by have := (hi True).mp x; omega))
    · refine ⟨_, rfl, iteF (no fun x => c (decide_eq_true (by have := (hi True).mp x; omega)))⟩
  · rintro H' ⟨sm, hd⟩
    refine ⟨_, rfl, _, rfl, by show 1 ≤ sizeLine; decide, fun q hq => ?_⟩
    have s2 := Same.upd (o := .lst [nV b]) sm hq
    have nq : D ≠ q := ne_of_none hd hq
    refine ⟨D, q, zs.filter fun z => inGroup a b z.2, [b], rfl, ⟨by rw [upd_ne nq]; exact hd, fun z hm => s2 _ _ (hZ.at_ z (List.mem_filter.mp hm).1)⟩, SqL.of upd_same, fun z hm => h9 z (List.mem_filter.mp hm).1, ?_⟩
    have e1 : (zs.filter fun z => inGroup a b z.2).map (·.2) = tt.ships.filter (inGroup a b) := by
      rw [← hz, List.filter_map]
      rfl
    rw [e1, group_until]
    exact k _ s2
theorem def_each (D : DefF K mg "ships_with_each" s_each) (T : Txt K mg C) (D1 : Def P w K mg base 1 "first_departure_from" ["departures", "hour"] (spFirst K)) : Def P w K mg base 2 "ships_with_each" ["ships", "departures"] spEach := by
  refine Def.mk' D sc_each (fun _ _ _ _ _ _ us hl => match us, hl with | [_, _], _ => rfl) (fun vs H Q E h => ?_) (fun f cdv A outer s H vs Q E hr h => ?_)
  · obtain ⟨sl, dl, zs, ds, rfl, _⟩ := h
    rfl
  obtain ⟨sl, dl, zs, ds, rfl, hZ, hS, h8, hd8, k⟩ := h
  refine ⟨_, pss_cons (ps_set (i := 2) sc_each.nd rfl (Or.inr rfl) (pe_lc (own := [("arrival", 3), ("weight", 4)]) (g := gTup K 2 (gCons (gName 3) (gCons (gName 4) gNil))) (by rfl) sc_each.nd (pi_list (pv 0))
      (blkOk_by (own := [("arrival", 3), ("weight", 4)]) (N := ["ships", "departures", "taken", "arrival", "weight", "departure"]) (sc := defScope s_each) (by decide +kernel))
      (fun _ _ _ _ _ => pg_tup rfl (pgs_cons (pg_name (i := 3) sc_each.nd rfl (Or.inl rfl)) (pgs_cons (pg_name (i := 4) sc_each.nd rfl (Or.inl rfl)) pgs_nil))) (fun _ _ _ _ _ => pts_nil) (fun _ _ _ _ _ => pe_callD D1 hr (pa_cons (pv 1) (pa_cons (pv 3) pa_nil)))) (hs := sw_cell rfl rfl))
    (pss_one (ps_ret (pe_lc (own := [("departure", 5)]) (g := gName 5) (te := tBM K "list" (rCntO K) (tVar 2) (tCons (tVar 5) tNil)) (by rfl) sc_each.nd (pi_list (pv 1)) (blkOk_by (own := [("departure", 5)]) (N := ["ships", "departures", "taken", "arrival", "weight", "departure"]) (sc := defScope s_each) (by decide +kernel))
      (fun _ _ _ _ _ => pg_name (i := 5) sc_each.nd rfl (Or.inl rfl)) (fun _ _ _ _ _ => pts_nil) (fun _ _ _ _ _ => pe_bm PySem.F.plainAttrs_list PySem.F.slot_list_count PySem.F.type_list_count mt_countO (pv 2) (pa_cons (pv 5) pa_nil))))), ?_⟩
  refine ⟨_, rfl, sl, rfl, ⟨_, SqL.of hZ.lst⟩, fun D hD => lc_pre (K := K) (a := sl) (l := zs) (f := fun z => V.ref z.1) (fun pre H' => Same H H' ∧ H' D = some (.lst (pre.map fun z => optV (firstFrom ds z.2.arrival))))
    ⟨same_upd hD, upd_same⟩ (fun pre H' ⟨e, _⟩ => SqL.of (e _ _ hZ.lst)) ?_ ?_⟩
  · rintro pre z post H' hp ⟨sm, hd⟩
    have hzm : z ∈ zs := by rw [hp]; simp
    have hl := congrArg List.length hp
    rw [List.length_append, List.length_cons] at hl
    refine ⟨_, _, rfl, SqT.of (sm _ _ (hZ.at_ z hzm)), rfl, _, _, rfl, _, _, rfl, rfl, ?_⟩
    refine ⟨rfl, ?_⟩
    refine yes_ ?_
    refine iteT ⟨_, rfl, _, rfl, dl, ds, z.2.arrival, rfl, SqL.of (sm _ _ hS), _, hd, by rw [List.length_map]; exact nine (by omega), fun b o e => ?_, ?_⟩
    · rw [upd_ne (ne_of_none e hD)]
      exact sm _ _ e
    · rw [upd_same, List.map_append]
      rfl
  · rintro H1 ⟨sm, hd⟩
    have e1 : (zs.map fun z => optV (firstFrom ds z.2.arrival)) = (zs.map fun z => firstFrom ds z.2.arrival).map optI := by
      rw [List.map_map, ← optV_I]
      rfl
    rw [e1] at hd
    refine ⟨_, rfl, dl, rfl, ⟨_, SqL.of (sm _ _ hS)⟩, fun D2 hD2 => lc_pre (K := K) (a := dl) (l := ds) (f := nV) (fun pre H' => Same H1 H' ∧ H' D2 = some (.lst (pre.map fun d => nV (takenBy zs ds d))))
      ⟨same_upd hD2, upd_same⟩ (fun pre H' ⟨e, _⟩ => SqL.of (e _ _ (sm _ _ hS))) ?_ ?_⟩
    · rintro pre d post H' hp ⟨sm2, hd2⟩
      have hl := congrArg List.length hp
      rw [List.length_append, List.length_cons] at hl
      refine ⟨rfl, ?_⟩
      refine yes_ ?_
      refine iteT ⟨_, rfl, .inl ⟨rfl, _, SqL.of (sm2 _ _ hd)⟩, _, rfl, D, _, d, rfl, rfl, SqL.of (sm2 _ _ hd), _, hd2, by rw [List.length_map]; exact nine (by omega), fun b o e => ?_, ?_⟩
      · rw [upd_ne (ne_of_none e hD2)]
        exact sm2 _ _ e
      · rw [upd_same, List.map_append]
        rfl
    · rintro H2 ⟨sm2, hd2⟩
      exact k H2 D2 (sm.trans sm2) hd2 (sm.free hD2)
end
end Ct
set_option Elab.async false
set_option maxRecDepth 100000
set_option maxHeartbeats 2000000
namespace Ct
open PySem PySem.Spec PyProof.Rows L2
open Km561 (Ship Timetable)
abbrev s_one : Stmt := top 15
theorem sc_one : FnScope ["ships", "hours", "nothing_to_serve", "hour"] ["ships", "hours"] (defScope s_one) := ⟨rfl, rfl, rfl, by decide +kernel, rfl, by decide +kernel, by decide +kernel⟩
/-! ### rows: what is best from each place on, in the heap -/
structure BRow where
  p : Addr
  q : Addr
  w : Nat
  hs : List Nat
structure RowAt (H : Hp) (r : BRow) : Prop where
  pr : H r.p = some (.tup [nV r.w, .ref r.q])
  ds : H r.q = some (.tup (r.hs.map nV))
structure RowsH (H : Hp) (l : Addr) (rs : List BRow) : Prop where
  lst : H l = some (.lst (rs.map fun r => V.ref r.p))
  at_ : ∀ r ∈ rs, RowAt H r
def rowP (r : BRow) : Nat × List Nat := (r.w, r.hs)
theorem RowAt.same {H H' : Hp} {r : BRow} (h : RowAt H r) (s : Same H H') : RowAt H' r := ⟨s _ _ h.pr, s _ _ h.ds⟩
theorem RowsH.same {H H' : Hp} {l : Addr} {rs : List BRow} (h : RowsH H l rs) (s : Same H H') : RowsH H' l rs := ⟨s _ _ h.lst, fun r m => (h.at_ r m).same s⟩
/-- a row stands still while a list changes -/
theorem RowAt.put {H : Hp} {r : BRow} {D : Addr} {xs : List V} {o : HO} (h : RowAt H r) (hd : H D = some (.lst xs)) : RowAt (upd H D o) r :=
  ⟨by rw [upd_ne (ne_of h.pr hd (by intro z; cases z))]; exact h.pr, by rw [upd_ne (ne_of h.ds hd (by intro z; cases z))]; exact h.ds⟩
def spOne : Sp := fun vs H Q _ => ∃ (sl hl : Addr) (zs : List (Addr × Ship)) (tt : Timetable) (hs : List Nat), vs = [.ref sl, .ref hl] ∧ ShL H sl zs ∧ zs.map (·.2) = tt.ships ∧ zs.length ≤ 9 ∧ (∀ z ∈ zs, z.2.weight ≤ 9) ∧
  H hl = some (.lst (hs.map nV)) ∧ hs.length ≤ 9 ∧ ∀ H' l rs, Same H H' → RowsH H' l rs → rs.map rowP = rowsAt tt hs 1 → Q (.ref l) H'
section
variable {P : Program} {w : World} {K : PySem.W.Frag} {mg : Str → Option Value} {base : Heap} {C : Addr}
theorem def_one (D : DefF K mg "with_one_departure" s_one) (D1 : Def P w K mg base 4 "waiting_for" ["ships", "first_hour", "departure"] spWaitFor) : Def P w K mg base 5 "with_one_departure" ["ships", "hours"] spOne := by
  refine Def.mk' D sc_one (fun _ _ _ _ _ _ us hl => match us, hl with | [_, _], _ => rfl) (fun vs H Q E h => ?_) (fun f cdv A outer s H vs Q E hr h => ?_)
  · obtain ⟨sl, hl, zs, tt, hs, rfl, _⟩ := h
    rfl
  obtain ⟨sl, hl, zs, tt, hs, rfl, hZ, hz, h8, h9, hH, hn, k⟩ := h
  refine ⟨_, pss_cons (ps_set (i := 2) sc_one.nd rfl (Or.inl rfl) (pe_tup (pa_cons pe_int (pa_cons (pe_tup pa_nil) pa_nil))))
    (pss_one (ps_ret (pe_op op_cat (pe_lc (own := [("hour", 3)]) (g := gName 3) (te := tTup (tCons (tCall spWaitFor [] E0 (tCons (tVar 0) (tCons (tVar 3) (tCons (tOp (rIxL K) (tVar 1) (tUn (rU fun i => .int (-i)) (tC (.int 1)))) tNil)))) (tCons (tTup (tCons (tOp (rIxL K) (tVar 1) (tUn (rU fun i => .int (-i)) (tC (.int 1)))) tNil)) tNil))) (by rfl) sc_one.nd (pi_list (pv 1)) (blkOk_by (own := [("hour", 3)]) (N := ["ships", "hours", "nothing_to_serve", "hour"]) (sc := defScope s_one) (by decide +kernel))
      (fun _ _ _ _ _ => pg_name (i := 3) sc_one.nd rfl (Or.inl rfl)) (fun _ _ _ _ _ => pts_nil)
      (fun _ _ _ _ _ => pe_tup (pa_cons (pe_callD D1 hr (pa_cons (pv 0) (pa_cons (pv 3) (pa_cons (pe_ix (r := rIxL K) ix_list (pv 1) (pe_un un_neg pe_int) (fun _ _ => rfl)) pa_nil)))) (pa_cons (pe_tup (pa_cons (pe_ix (r := rIxL K) ix_list (pv 1) (pe_un un_neg pe_int) (fun _ _ => rfl)) pa_nil)) pa_nil))))
      (pe_lst (pa_cons (pv 2) pa_nil))))), ?_⟩
  have z0 : ∀ p q : Addr, ∀ H' : Hp, H' q = some (.tup ([] : List V)) → H' p = some (.tup [nV 0, .ref q]) → RowAt H' ⟨p, q, 0, []⟩ := fun p q H' h1 h2 => ⟨h2, h1⟩
  refine ⟨by show 0 ≤ sizeLine; decide, fun e0 he0 => ?_⟩
  refine ⟨by show 2 ≤ sizeLine; decide, fun n0 hn0 => ?_⟩
  have s1 : Same H (upd H e0 (.tup [])) := same_upd he0
  have s2 := Same.upd (o := .tup [.int 0, .ref e0]) s1 hn0
  have hn0' := s1.free hn0
  have ne0 : e0 ≠ n0 := fun z => by
    rw [← z, upd_same] at hn0
    cases hn0
  have row0 : RowAt (upd (upd H e0 (.tup [])) n0 (.tup [.int 0, .ref e0])) ⟨n0, e0, 0, []⟩ := z0 _ _ _ (by rw [upd_ne ne0, upd_same]) upd_same
  generalize hG0 : upd (upd H e0 (.tup [])) n0 (.tup [.int 0, .ref e0]) = H0 at s2 row0 ⊢
  refine ⟨_, rfl, hl, rfl, ⟨_, SqL.of (s2 _ _ hH)⟩, fun D hD => lc_pre (K := K) (a := hl) (l := hs) (f := nV) (fun pre H' => Same H0 H' ∧ ∃ rs : List BRow, H' D = some (.lst (rs.map fun r => V.ref r.p)) ∧ (∀ r ∈ rs, RowAt H' r) ∧ rs.map rowP = (List.range pre.length).map (bestAt tt hs 1))
    ⟨same_upd hD, [], upd_same, (fun r m => by cases m), rfl⟩ (fun pre H' ⟨e, _⟩ => SqL.of (e _ _ (s2 _ _ hH))) ?_ ?_⟩
  · rintro pre x post H1 hp ⟨sm, rs, hd, hr, hrs⟩
    have hlen := congrArg List.length hp
    rw [List.length_append, List.length_cons] at hlen
    have hx : hs.getD pre.length 0 = x := by
      rw [List.getD_eq_getElem?_getD, hp, List.getElem?_append_right (Nat.le_refl _), Nat.sub_self]
      rfl
    have hrl : rs.length = pre.length := by
      have := congrArg List.length hrs
      rw [List.length_map, List.length_map, List.length_range] at this
      exact this
    have sH : Same H H1 := s2.trans sm
    refine ⟨rfl, ?_⟩
    refine yes_ ?_
    refine iteT ?_
    refine ⟨_, rfl, _, rfl, _, rfl, _, rfl, hl, _, _, _, rfl, rfl, SqL.of (sH _ _ hH), at_last (by omega), sl, zs, tt, x, _, rfl, hZ.same sH, hz, h8, h9, fun H2 sm2 => ?_⟩
    have sH2 := sH.trans sm2
    refine ⟨_, rfl, _, rfl, hl, _, _, _, rfl, rfl, SqL.of (sH2 _ _ hH), at_last (by omega), by show 1 ≤ sizeLine; decide, fun q hq => ?_⟩
    have s3 := Same.upd (o := .tup [nV (hs.getD (hs.length - 1) 0)]) sm2 hq
    refine ⟨by show 2 ≤ sizeLine; decide, fun p hp2 => ?_⟩
    have s4 := Same.upd (o := .tup [nV (Km561.waitingUntil tt x (hs.getD (hs.length - 1) 0)), .ref q]) s3 hp2
    have nqp : q ≠ p := fun z => by
      rw [← z, upd_same] at hp2
      cases hp2
    have hd4 := s4 _ _ hd
    have r4 : RowAt (upd (upd H2 q (.tup [nV (hs.getD (hs.length - 1) 0)])) p (.tup [nV (Km561.waitingUntil tt x (hs.getD (hs.length - 1) 0)), .ref q])) ⟨p, q, Km561.waitingUntil tt x (hs.getD (hs.length - 1) 0), [hs.getD (hs.length - 1) 0]⟩ :=
      ⟨upd_same, by rw [upd_ne nqp, upd_same]; rfl⟩
    refine ⟨_, hd4, by rw [List.length_map]; exact nine (by omega), fun b o e => ?_, rs ++ [⟨p, q, Km561.waitingUntil tt x (hs.getD (hs.length - 1) 0), [hs.getD (hs.length - 1) 0]⟩], ?_, fun r m => ?_, ?_⟩
    · rw [upd_ne (ne_of_none e hD)]
      exact (sm.trans s4) _ _ e
    · rw [upd_same, List.map_append]
      rfl
    · rcases List.mem_append.mp m with m | m
      · exact ((hr r m).same s4).put hd4
      · rw [List.mem_singleton.mp m]
        exact r4.put hd4
    · rw [List.map_append, hrs, List.length_append, List.length_singleton, List.range_succ, List.map_append]
      congr 1
      show [(_, _)] = [bestAt tt hs 1 pre.length]
      rw [best_one (by omega), hx]
  · rintro H1 ⟨sm, rs, hd, hr, hrs⟩
    have sH : Same H H1 := s2.trans sm
    refine ⟨_, rfl, by show 1 ≤ sizeLine; decide, fun q hq => ?_⟩
    have s3 := Same.upd (o := .lst [.ref n0]) (Same.refl H1) hq
    have hrl : rs.length = hs.length := by
      have := congrArg List.length hrs
      rw [List.length_map, List.length_map, List.length_range] at this
      exact this
    refine ⟨D, q, _, _, rfl, rfl, s3 _ _ hd, upd_same, ?_, fun l hl2 => ?_⟩
    · rw [List.length_map]
      exact Nat.le_of_lt (Nat.lt_of_le_of_lt (show rs.length + 1 ≤ 10 by omega) (by decide))
    have s4 := Same.upd (o := .lst ((rs.map fun r => V.ref r.p) ++ [.ref n0])) s3 hl2
    refine k _ l (rs ++ [⟨n0, e0, 0, []⟩]) (sH.trans s4) ⟨?_, fun r m => ?_⟩ ?_
    · rw [upd_same, List.map_append]
      rfl
    · rcases List.mem_append.mp m with m | m
      · exact (hr r m).same s4
      · rw [List.mem_singleton.mp m]
        exact row0.same (sm.trans s4)
    · rw [List.map_append, hrs, rows_snoc]
      rfl
end
end Ct
set_option Elab.async false
set_option maxRecDepth 100000
set_option maxHeartbeats 4000000
namespace Ct
open PySem PySem.Spec PyProof.Rows L2
open Km561 (Ship Timetable)
abbrev s_another : Stmt := top 16
theorem sc_another : FnScope ["ships", "hours", "best", "better", "first", "choices", "place", "later", "waiting", "nothing_to_serve"] ["ships", "hours", "best"] (defScope s_another) := ⟨rfl, rfl, rfl, by decide +kernel, rfl, by decide +kernel, by decide +kernel⟩
theorem at_hour {hs : List Nat} {i : Nat} (h : i < hs.length) : atI (hs.map nV) (i : Int) = some (nV (hs.getD i 0)) := by
  refine atI_nat ?_
  rw [List.getElem?_map, List.getElem?_eq_getElem h, List.getD_eq_getElem?_getD, List.getElem?_eq_getElem h]
  rfl
theorem best_congr {bt bt' : Nat → Nat → Bool} : ∀ {k : Nat}, (∀ i j, i ≤ k → j ≤ k → bt i j = bt' i j) → argBest bt k = argBest bt' k
  | 0, _ => rfl
  | k + 1, h => by
    have ih := best_congr (bt := bt) (bt' := bt') (k := k) fun i j hi hj => h i j (by omega) (by omega)
    have e := h (k + 1) (argBest bt k) (Nat.le_refl _) (by have := best_le bt k; omega)
    unfold argBest
    rw [e, ih]
/-- the rows of a list, as min asks for them -/
def minRow (r : BRow) : MinRow := ⟨r.p, (r.w : Int), .ref r.q, ((r.hs.headD 0 : Nat) : Int)⟩
theorem row_at {rs : List BRow} {f : Nat → Nat × List Nat} {n : Nat} (e : rs.map rowP = (List.range n).map f) {j : Nat} (h : j < n) : ∃ r, rs[j]? = some r ∧ rowP r = f j := by
  have q := congrArg (fun l => l[j]?) e
  simp only [List.getElem?_map, List.getElem?_range h, Option.map_some] at q
  obtain ⟨r, h1, h2⟩ := Option.map_eq_some_iff.mp q
  exact ⟨r, h1, h2⟩
theorem rows_n {rs : List BRow} {f : Nat → Nat × List Nat} {n : Nat} (e : rs.map rowP = (List.range n).map f) : rs.length = n := by
  have q := congrArg List.length e
  rw [List.length_map, List.length_map, List.length_range] at q
  exact q
theorem less_is {rs : List BRow} {tt : Timetable} {hs : List Nat} {c i m : Nat} (e : rs.map rowP = (List.range (m + 1)).map (rowOf tt hs c i)) : argBest (lessW (rs.map minRow)) m = argBest (lessRow tt hs c i) m := by
  refine best_congr fun a b ha hb => ?_
  obtain ⟨ra, h1, h2⟩ := row_at e (j := a) (by omega)
  obtain ⟨rb, h3, h4⟩ := row_at e (j := b) (by omega)
  have g : ∀ (k : Nat) (r : BRow), rs[k]? = some r → ((rs.map minRow).map (·.w)).getD k 0 = (r.w : Int) := fun k r q => by
    rw [List.getD_eq_getElem?_getD, List.getElem?_map, List.getElem?_map, q]
    rfl
  unfold lessW lessRow
  rw [g a ra h1, g b rb h3, ← h2, ← h4]
  exact dec_congr (show (ra.w : Int) < (rb.w : Int) ↔ ra.w < rb.w by omega)
theorem min_rise {rs : List BRow} {tt : Timetable} {hs : List Nat} {c i m : Nat} (hs1 : hs.Pairwise (· < ·)) (e : rs.map rowP = (List.range m).map (rowOf tt hs c i)) (hm : i + m ≤ hs.length) : (rs.map minRow).Pairwise (fun x y => x.m < y.m) := by
  have hl := rows_n e
  refine List.pairwise_map.mpr (List.pairwise_iff_getElem.mpr fun a b ha hb hab => ?_)
  obtain ⟨ra, h1, h2⟩ := row_at e (j := a) (by omega)
  obtain ⟨rb, h3, h4⟩ := row_at e (j := b) (by omega)
  rw [List.getElem?_eq_getElem ha] at h1
  rw [List.getElem?_eq_getElem hb] at h3
  rw [Option.some.inj h1, Option.some.inj h3]
  have q1 : ra.hs = (rowOf tt hs c i a).2 := congrArg Prod.snd h2
  have q2 : rb.hs = (rowOf tt hs c i b).2 := congrArg Prod.snd h4
  show ((ra.hs.headD 0 : Nat) : Int) < ((rb.hs.headD 0 : Nat) : Int)
  rw [q1, q2]
  have := getD_lt hs1 (show i + a < i + b by omega) (by omega)
  show ((hs.getD (i + a) 0 : Nat) : Int) < ((hs.getD (i + b) 0 : Nat) : Int)
  omega
theorem min_sec {K : PySem.W.Frag} {H : Hp} {r : BRow} {x : Nat} {l : List Nat} (h : RowAt H r) (e : r.hs = x :: l) : SqT K H (minRow r).p [.int (minRow r).w, (minRow r).y] ∧ Sec K H true (minRow r).y (minRow r).m := by
  refine ⟨SqT.of h.pr, r.q, l.map fun d : Nat => (d : Int), rfl, ?_⟩
  have q := h.ds
  rw [nV_int, e] at q
  have z : (minRow r).m = (x : Int) := by
    show ((r.hs.headD 0 : Nat) : Int) = _
    rw [e]
    rfl
  rw [z]
  exact SqT.of q
def spAnother : Sp := fun vs H Q _ => ∃ (sl hl bl : Addr) (zs : List (Addr × Ship)) (tt : Timetable) (hs : List Nat) (bs : List BRow) (c : Nat), vs = [.ref sl, .ref hl, .ref bl] ∧ ShL H sl zs ∧ zs.map (·.2) = tt.ships ∧ zs.length ≤ 9 ∧ (∀ z ∈ zs, z.2.weight ≤ 9) ∧
  H hl = some (.lst (hs.map nV)) ∧ hs.length ≤ 9 ∧ hs.Pairwise (· < ·) ∧ RowsH H bl bs ∧ bs.map rowP = rowsAt tt hs (c + 1) ∧ (∀ i, (bestAt tt hs (c + 1) i).2.length ≤ 9) ∧
  ∀ H' l rs, Same H H' → RowsH H' l rs → rs.map rowP = rowsAt tt hs (c + 2) → Q (.ref l) H'
section
variable {P : Program} {w : World} {K : PySem.W.Frag} {mg : Str → Option Value} {base : Heap} {C : Addr}
theorem def_another (D : DefF K mg "with_another_departure" s_another) (T : Txt K mg C) (D1 : Def P w K mg base 4 "waiting_for" ["ships", "first_hour", "departure"] spWaitFor) : Def P w K mg base 5 "with_another_departure" ["ships", "hours", "best"] spAnother := by
  refine Def.mk' D sc_another (fun _ _ _ _ _ _ us hl => match us, hl with | [_, _, _], _ => rfl) (fun vs H Q E h => ?_) (fun f cdv A outer s H vs Q E hr h => ?_)
  · obtain ⟨sl, hl, bl, zs, tt, hs, bs, c, rfl, _⟩ := h
    rfl
  obtain ⟨sl, hl, bl, zs, tt, hs, bs, c, rfl, hZ, hz, h8, h9, hH, hn, hs1, hB, hbs, hb9, k⟩ := h
  have nd := sc_another.nd
  have hu : (A.deeper (envOfC "with_another_departure" (defScope s_another) s.heap.objs.size f cdv)).units + 64 < cLine := hr.units
  refine ⟨_, pss_cons (ps_set (i := 3) nd rfl (Or.inl rfl) (pe_lst pa_nil))
    (pss_cons (ps_for PassesOwn.never rfl (pi_range1 rfl T.range (pa_cons (pe_callB call_len_seq (by rfl) T.len PySem.boot_len (pa_cons (pv 1) pa_nil)) pa_nil)) (pg_name (i := 4) nd rfl (Or.inl rfl))
      (pss_cons (ps_set (i := 5) nd rfl (Or.inl rfl) (pe_lst pa_nil))
      (pss_cons (ps_for PassesOwn.never rfl (pi_range2 rfl T.range (pa_cons (pv 4) (pa_cons (pe_callB call_len_seq (by rfl) T.len PySem.boot_len (pa_cons (pv 1) pa_nil)) pa_nil))) (pg_name (i := 6) nd rfl (Or.inl rfl))
        (pss_cons (ps_set (i := 7) nd rfl (Or.inl rfl) (pe_ix ix_list (pv 2) (pe_op op_add (pv 6) pe_int) (fun _ _ => rfl)))
        (pss_cons (ps_set (i := 8) nd rfl (Or.inl rfl) (pe_op op_add (pe_callD D1 hr (pa_cons (pv 0) (pa_cons (pe_ix ix_list (pv 1) (pv 4) (fun _ _ => rfl)) (pa_cons (pe_ix ix_list (pv 1) (pv 6) (fun _ _ => rfl)) pa_nil)))) (pe_ix ix_tup (pv 7) pe_int (fun _ _ => rfl))))
        (pss_one (ps_expr (pe_bm PySem.F.plainAttrs_list PySem.F.slot_list_append PySem.F.type_list_append mt_append (pv 5) (pa_cons (pe_tup (pa_cons (pv 8) (pa_cons (pe_op op_catA (pe_tup (pa_cons (pe_ix ix_list (pv 1) (pv 6) (fun _ _ => rfl)) pa_nil)) (pe_ix ix_tup (pv 7) pe_int (fun _ _ => rfl))) pa_nil))) pa_nil)))))))
      (pss_one (ps_expr (pe_bm PySem.F.plainAttrs_list PySem.F.slot_list_append PySem.F.type_list_append mt_append (pv 3) (pa_cons (pe_callB (cr_minT true (by rfl) hu) (by rfl) T.min (by decide +kernel) (pa_cons (pv 5) pa_nil)) pa_nil))))))
    )
    (pss_cons (ps_set (i := 9) nd rfl (Or.inl rfl) (pe_ix ix_list (pv 2) (pe_callB call_len_seq (by rfl) T.len PySem.boot_len (pa_cons (pv 1) pa_nil)) (fun _ _ => rfl)))
    (pss_one (ps_ret (pe_op op_cat (pv 3) (pe_lst (pa_cons (pv 9) pa_nil))))))), ?_⟩
  refine ⟨by show 0 ≤ sizeLine; decide, fun bt hbt => ?_⟩
  have sB : Same H (upd H bt (.lst [])) := same_upd hbt
  have hBt : upd H bt (.lst []) bt = some (.lst []) := upd_same
  generalize upd H bt (.lst []) = H0 at sB hBt ⊢
  refine ⟨_, rfl, hl, _, rfl, .inl (SqL.of (sB _ _ hH)), ((hs.length : Nat) : Int), by rw [List.length_map], by omega, by omega, for_range (lo := 0) (n := ((hs.length : Nat) : Int).toNat)
    (fun i σ H' => Same H H' ∧ ∃ (rs : List BRow) (v4 v5 v6 v7 v8 v9 : Option V), σ = [some (.ref sl), some (.ref hl), some (.ref bl), some (.ref bt), v4, v5, v6, v7, v8, v9] ∧ H' bt = some (.lst (rs.map fun r => V.ref r.p)) ∧ (∀ r ∈ rs, RowAt H' r) ∧ rs.map rowP = (List.range i).map (bestAt tt hs (c + 2)))
    ⟨sB, [], none, none, none, none, none, none, rfl, hBt, (fun r m => by cases m), rfl⟩ ?_ ?_⟩
  · rintro i σ H1 hi ⟨sm, rs, v4, v5, v6, v7, v8, v9, rfl, hbt1, hrs1, hrs⟩
    have hi' : i < hs.length := by omega
    have e0 : (0 : Int) + (i : Int) = (i : Int) := Int.zero_add _
    have rl := rows_n hrs
    refine ⟨by show 0 ≤ sizeLine; decide, fun ch hch => ?_⟩
    have s1 : Same H1 (upd H1 ch (.lst [])) := same_upd hch
    have hch1 : upd H1 ch (.lst []) ch = some (.lst []) := upd_same
    generalize upd H1 ch (.lst []) = H2 at s1 hch1 ⊢
    have hchH : H ch = none := sm.free hch
    obtain ⟨m, hm⟩ : ∃ m, hs.length - i = m + 1 := ⟨hs.length - i - 1, by omega⟩
    refine ⟨_, rfl, _, rfl, hl, _, rfl, .inl (SqL.of ((sm.trans s1) _ _ hH)), _, _, rfl, ⟨by omega, by omega, by rw [List.length_map]; omega, by rw [List.length_map]; omega⟩, ?_⟩
    rw [List.length_map, e0, show (((hs.length : Nat) : Int) - (i : Int)).toNat = m + 1 by omega]
    refine for_range (lo := (i : Int)) (n := m + 1)
      (fun j σ H' => Same H1 H' ∧ ∃ (cs : List BRow) (v6 v7 v8 : Option V), σ = [some (.ref sl), some (.ref hl), some (.ref bl), some (.ref bt), some (nV i), some (.ref ch), v6, v7, v8, v9] ∧ H' ch = some (.lst (cs.map fun r => V.ref r.p)) ∧ (∀ r ∈ cs, RowAt H' r) ∧ cs.map rowP = (List.range j).map (rowOf tt hs c i))
      ⟨s1, [], v6, v7, v8, rfl, hch1, (fun r m => by cases m), rfl⟩ ?_ ?_
    · rintro j σ H3 hj ⟨sm3, cs, v6, v7, v8, rfl, hch3, hcs1, hcs⟩
      have cl := rows_n hcs
      have sH := sm.trans sm3
      have ij : i + j < hs.length := by omega
      have e1 : (i : Int) + (j : Int) = ((i + j : Nat) : Int) := by omega
      have e2 : ((i + j : Nat) : Int) + 1 = ((i + j + 1 : Nat) : Int) := by omega
      obtain ⟨rb, hb1, hb2⟩ : ∃ r, bs[i + j + 1]? = some r ∧ rowP r = bestAt tt hs (c + 1) (i + j + 1) := row_at (n := hs.length + 1) hbs (by omega)
      have hbm := List.mem_of_getElem? hb1
      have rB := (hB.at_ rb hbm).same sH
      have w1 : rb.w = (bestAt tt hs (c + 1) (i + j + 1)).1 := congrArg Prod.fst hb2
      have w2 : rb.hs = (bestAt tt hs (c + 1) (i + j + 1)).2 := congrArg Prod.snd hb2
      rw [e1]
      refine ⟨_, rfl, _, rfl, _, _, rfl, rfl, bl, _, _, V.ref rb.p, rfl, rfl, SqL.of (sH _ _ hB.lst), ?_, ?_⟩
      · rw [e2]
        exact atI_nat (by rw [List.getElem?_map, hb1]; rfl)
      refine ⟨_, rfl, _, rfl, _, rfl, hl, _, _, _, rfl, rfl, SqL.of (sH _ _ hH), at_hour hi', _, rfl, _, rfl, hl, _, _, _, rfl, rfl, SqL.of (sH _ _ hH), at_hour ij, sl, zs, tt, _, _, rfl, hZ.same sH, hz, h8, h9, fun H4 s4 => ?_⟩
      have rB4 := rB.same s4
      refine ⟨_, rfl, rb.p, _, _, _, rfl, rfl, SqT.of rB4.pr, atI_nat (j := 0) rfl, _, _, rfl, rfl, ?_⟩
      have hH4 := (sH.trans s4) _ _ hH
      refine ⟨_, rfl, .inl ⟨rfl, _, SqL.of (s4 _ _ hch3)⟩, _, rfl, _, rfl, _, rfl, hl, _, _, _, rfl, rfl, SqL.of hH4, at_hour ij, by show 1 ≤ sizeLine; decide, fun q1 hq1 => ?_⟩
      have s5 := Same.upd (o := .tup [nV (hs.getD (i + j) 0)]) (Same.refl H4) hq1
      have hq5 : upd H4 q1 (.tup [nV (hs.getD (i + j) 0)]) q1 = some (.tup [nV (hs.getD (i + j) 0)]) := upd_same
      generalize upd H4 q1 (.tup [nV (hs.getD (i + j) 0)]) = H5 at s5 hq5 ⊢
      have rB5 := rB4.same s5
      have ew : ((Km561.waitingUntil tt (hs.getD i 0) (hs.getD (i + j) 0) : Nat) : Int) + (rb.w : Int) = ((rowOf tt hs c i j).1 : Int) := by
        unfold rowOf
        rw [Int.natCast_add, w1]
      have fin : ∀ (H6 : Hp) (q p : Addr), Same H3 H6 → H6 q = some (.tup ((rowOf tt hs c i j).2.map nV)) → H6 p = none → ∃ l xs y, V.ref ch = .ref l ∧ [V.ref p] = [y] ∧ upd H6 p (.tup [V.int (((Km561.waitingUntil tt (hs.getD i 0) (hs.getD (i + j) 0) : Nat) : Int) + (rb.w : Int)), .ref q]) l = some (.lst xs) ∧ xs.length < sizeLine ∧
          (Same H1 (upd (upd H6 p (.tup [V.int (((Km561.waitingUntil tt (hs.getD i 0) (hs.getD (i + j) 0) : Nat) : Int) + (rb.w : Int)), .ref q])) l (.lst (xs ++ [y]))) ∧ ∃ (cs : List BRow) (u6 u7 u8 : Option V), [some (.ref sl), some (.ref hl), some (.ref bl), some (.ref bt), some (nV i), some (.ref ch), some (nV (i + j)), some (V.ref rb.p), some (V.int (((Km561.waitingUntil tt (hs.getD i 0) (hs.getD (i + j) 0) : Nat) : Int) + (rb.w : Int))), v9] = [some (.ref sl), some (.ref hl), some (.ref bl), some (.ref bt), some (nV i), some (.ref ch), u6, u7, u8, v9] ∧
            upd (upd H6 p (.tup [V.int (((Km561.waitingUntil tt (hs.getD i 0) (hs.getD (i + j) 0) : Nat) : Int) + (rb.w : Int)), .ref q])) l (.lst (xs ++ [y])) ch = some (.lst (cs.map fun r => V.ref r.p)) ∧ (∀ r ∈ cs, RowAt (upd (upd H6 p (.tup [V.int (((Km561.waitingUntil tt (hs.getD i 0) (hs.getD (i + j) 0) : Nat) : Int) + (rb.w : Int)), .ref q])) l (.lst (xs ++ [y]))) r) ∧ cs.map rowP = (List.range (j + 1)).map (rowOf tt hs c i)) := by
        intro H6 q p s6 hq hp
        rw [ew]
        have s7 := Same.upd (o := .tup [V.int ((rowOf tt hs c i j).1 : Int), .ref q]) s6 hp
        have nqp : q ≠ p := ne_of_none hq hp
        have r7 : RowAt (upd H6 p (.tup [V.int ((rowOf tt hs c i j).1 : Int), .ref q])) ⟨p, q, (rowOf tt hs c i j).1, (rowOf tt hs c i j).2⟩ := ⟨upd_same, by rw [upd_ne nqp]; exact hq⟩
        generalize upd H6 p (.tup [V.int ((rowOf tt hs c i j).1 : Int), .ref q]) = H7 at s7 r7 ⊢
        have hc7 := s7 _ _ hch3
        refine ⟨ch, _, _, rfl, rfl, hc7, by rw [List.length_map]; exact nine (by omega), fun b o e => ?_, cs ++ [⟨p, q, (rowOf tt hs c i j).1, (rowOf tt hs c i j).2⟩], _, _, _, rfl, ?_, fun r hr => ?_, ?_⟩
        · rw [upd_ne (ne_of_none e hch)]
          exact (sm3.trans s7) _ _ e
        · rw [upd_same, List.map_append]
          rfl
        · rcases List.mem_append.mp hr with hr | hr
          · exact ((hcs1 r hr).same s7).put hc7
          · rw [List.mem_singleton.mp hr]
            exact r7.put hc7
        · rw [List.map_append, hcs, List.range_succ, List.map_append]
          rfl
      have s35 := s4.trans s5
      refine ⟨_, rfl, rb.p, _, _, _, rfl, rfl, SqT.of rB5.pr, atI_nat (j := 1) rfl, q1, rb.q, _, _, rfl, rfl, SqT.of hq5, SqT.of rB5.ds, ?_, (fun z => by cases z), fun _ z => ?_, fun _ _ q2 hq2 => ?_⟩
      · have := hb9 (i + j + 1)
        rw [List.length_map, w2]
        exact Nat.le_trans (show [nV (hs.getD (i + j) 0)].length + (bestAt tt hs (c + 1) (i + j + 1)).2.length ≤ 10 by show 1 + _ ≤ 10; omega) (by decide)
      · refine ⟨by show 2 ≤ sizeLine; decide, fun p hp => fin H5 q1 p s35 ?_ hp⟩
        have z2 : rb.hs = [] := List.map_eq_nil_iff.mp z
        unfold rowOf
        rw [← w2, z2]
        exact hq5
      · refine ⟨by show 2 ≤ sizeLine; decide, fun p hp => fin _ q2 p (Same.upd s35 hq2) ?_ hp⟩
        rw [upd_same]
        unfold rowOf
        rw [← w2]
        rfl
    · rintro σ H3 ⟨sm3, cs, v6, v7, v8, rfl, hch3, hcs1, hcs⟩
      have cl := rows_n hcs
      refine ⟨_, rfl, .inl ⟨rfl, _, SqL.of (sm3 _ _ hbt1)⟩, _, rfl, ch, cs.map minRow, rfl, SqL.of ?_, by rw [List.length_map]; omega, fun r hr => ?_, min_rise hs1 hcs (by omega), fun r hr => ?_⟩
      · rw [hch3, List.map_map]
        rfl
      · obtain ⟨r', hr', rfl⟩ := List.mem_map.mp hr
        obtain ⟨kk, hk⟩ := List.mem_iff_getElem?.mp hr'
        obtain ⟨r2, h1, h2⟩ := row_at hcs (j := kk) (by rw [← cl]; exact (List.getElem?_eq_some_iff.mp hk).1)
        rw [hk] at h1
        cases h1
        exact min_sec (hcs1 r' hr') (congrArg Prod.snd h2)
      · rw [List.length_map, cl, Nat.add_sub_cancel, less_is hcs, List.getElem?_map] at hr
        obtain ⟨r', h1, h2⟩ := Option.map_eq_some_iff.mp hr
        subst h2
        have hlt : argBest (lessRow tt hs c i) m < m + 1 := by
          have := best_le (lessRow tt hs c i) m
          omega
        obtain ⟨r2, h3, h4⟩ := row_at hcs (j := argBest (lessRow tt hs c i) m) hlt
        rw [h1] at h3
        cases h3
        have hb3 := sm3 _ _ hbt1
        refine ⟨bt, _, _, rfl, rfl, hb3, by rw [List.length_map]; exact nine (by omega), fun b o e => ?_, rs ++ [r'], _, _, _, _, _, _, rfl, ?_, fun r hr => ?_, ?_⟩
        · rw [upd_ne (ne_of_none e hbt)]
          exact (sm.trans sm3) _ _ e
        · rw [upd_same, List.map_append]
          rfl
        · rcases List.mem_append.mp hr with hr | hr
          · exact ((hrs1 r hr).same sm3).put hb3
          · rw [List.mem_singleton.mp hr]
            exact (hcs1 r' (List.mem_of_getElem? h1)).put hb3
        · rw [List.map_append, hrs, List.range_succ, List.map_append]
          congr 1
          show [rowP r'] = [bestAt tt hs (c + 2) i]
          rw [h4, best_more hi', show hs.length - i - 1 = m by omega]
  · rintro σ H1 ⟨sm, rs, v4, v5, v6, v7, v8, v9, rfl, hbt1, hrs1, hrs⟩
    have rl := rows_n hrs
    obtain ⟨rb, hb1, hb2⟩ : ∃ r, bs[hs.length]? = some r ∧ rowP r = bestAt tt hs (c + 1) hs.length := row_at (n := hs.length + 1) hbs (by omega)
    have hbm := List.mem_of_getElem? hb1
    rw [best_end (Nat.le_refl _)] at hb2
    refine ⟨_, rfl, _, rfl, hl, _, rfl, .inl (SqL.of (sm _ _ hH)), bl, _, _, V.ref rb.p, rfl, rfl, SqL.of (sm _ _ hB.lst), ?_, ?_⟩
    · rw [List.length_map]
      exact atI_nat (by rw [List.getElem?_map, hb1]; rfl)
    refine ⟨_, rfl, _, rfl, by show 1 ≤ sizeLine; decide, fun q hq => ?_⟩
    have s3 := Same.upd (o := .lst [.ref rb.p]) (Same.refl H1) hq
    refine ⟨bt, q, _, _, rfl, rfl, s3 _ _ hbt1, upd_same, ?_, fun l hl2 => ?_⟩
    · rw [List.length_map]
      exact Nat.le_of_lt (Nat.lt_of_le_of_lt (show rs.length + 1 ≤ 10 by omega) (by decide))
    have s4 := Same.upd (o := .lst ((rs.map fun r => V.ref r.p) ++ [.ref rb.p])) s3 hl2
    refine k _ l (rs ++ [rb]) (sm.trans s4) ⟨?_, fun r m => ?_⟩ ?_
    · rw [upd_same, List.map_append]
      rfl
    · rcases List.mem_append.mp m with m | m
      · exact (hrs1 r m).same s4
      · rw [List.mem_singleton.mp m]
        exact ((hB.at_ rb hbm).same sm).same s4
    · rw [List.map_append, hrs, rows_snoc, List.map_cons, List.map_nil, hb2]
      rfl
end
end Ct
set_option Elab.async false
set_option maxRecDepth 100000
set_option maxHeartbeats 4000000
namespace Ct
open PySem PySem.Spec PyProof.Rows L2
open Km561 (Ship Timetable)
abbrev s_opt_t : Stmt := top 17
abbrev s_opt_w : Stmt := top 18
abbrev s_smallest : Stmt := top 19
abbrev s_cheapest : Stmt := top 20
theorem sc_opt_t : FnScope ["ships", "count", "hours", "best", "further"] ["ships", "count"] (defScope s_opt_t) := ⟨rfl, rfl, rfl, by decide +kernel, rfl, by decide +kernel, by decide +kernel⟩
theorem sc_opt_w : FnScope ["ships", "count"] ["ships", "count"] (defScope s_opt_w) := ⟨rfl, rfl, rfl, by decide +kernel, rfl, by decide +kernel, by decide +kernel⟩
theorem sc_smallest : FnScope ["ships", "limit", "count"] ["ships", "limit"] (defScope s_smallest) := ⟨rfl, rfl, rfl, by decide +kernel, rfl, by decide +kernel, by decide +kernel⟩
theorem sc_cheapest : FnScope ["ships", "price", "most", "costs", "cheapest", "count"] ["ships", "price", "most"] (defScope s_cheapest) := ⟨rfl, rfl, rfl, by decide +kernel, rfl, by decide +kernel, by decide +kernel⟩
/-- ships as the document grants them -/
structure Fleet (H : Hp) (sl : Addr) (tt : Timetable) : Prop where
  ex : ∃ zs : List (Addr × Ship), ShL H sl zs ∧ zs.map (·.2) = tt.ships ∧ zs.length ≤ 9 ∧ ∀ z ∈ zs, z.2.weight ≤ 9
theorem Fleet.same {H H' : Hp} {sl : Addr} {tt : Timetable} (F : Fleet H sl tt) (s : Same H H') : Fleet H' sl tt := by
  obtain ⟨zs, h1, h2, h3, h4⟩ := F.ex
  exact ⟨zs, h1.same s, h2, h3, h4⟩
theorem Fleet.len {H : Hp} {sl : Addr} {tt : Timetable} (F : Fleet H sl tt) : tt.ships.length ≤ 9 := by
  obtain ⟨zs, h1, h2, h3, h4⟩ := F.ex
  rw [← h2, List.length_map]
  exact h3
theorem best_len {tt : Timetable} {hs : List Nat} (h : hs.Pairwise (· < ·)) (c i : Nat) : (bestAt tt hs (c + 1) i).2.length ≤ c + 1 := (opt_list h (c + 1) i _ (best_of i)).2.1
def bestOf (tt : Timetable) (k : Nat) : Nat × List Nat := bestAt tt (Km561.arrivalHours tt) k 0
theorem bestOf_is {tt : Timetable} {k : Nat} (h : k ≠ 0) : Km561.optimal tt k = some (bestOf tt k) := optimal_best h
theorem bestOf_w {tt : Timetable} {k : Nat} (h : k ≠ 0) : Km561.optimalWaiting tt k = (bestOf tt k).1 := optimalWaiting_of (bestOf_is h)
def spOptT : Sp := fun vs H Q _ => ∃ (sl : Addr) (tt : Timetable) (n : Nat), vs = [.ref sl, nV n] ∧ Fleet H sl tt ∧ 1 ≤ n ∧ n ≤ 9 ∧
  ∀ H' p q, Same H H' → H' p = some (.tup [nV (bestOf tt n).1, .ref q]) → H' q = some (.tup ((bestOf tt n).2.map nV)) → Q (.ref p) H'
def spOptW : Sp := fun vs H Q _ => ∃ (sl : Addr) (tt : Timetable) (n : Nat), vs = [.ref sl, nV n] ∧ Fleet H sl tt ∧ 1 ≤ n ∧ n ≤ 9 ∧ ∀ H', Same H H' → Q (nV (Km561.optimalWaiting tt n)) H'
def spSmallest : Sp := fun vs H Q _ => ∃ (sl : Addr) (tt : Timetable) (l m : Nat), vs = [.ref sl, nV l] ∧ Fleet H sl tt ∧ 1 ≤ m ∧ m ≤ 9 ∧ Km561.optimalWaiting tt m ≤ l ∧ (∀ j, 1 ≤ j → j < m → ¬ Km561.optimalWaiting tt j ≤ l) ∧ ∀ H', Same H H' → Q (nV m) H'
def spCheapest : Sp := fun vs H Q _ => ∃ (sl : Addr) (tt : Timetable) (pr m : Nat), vs = [.ref sl, nV pr, nV (m + 1)] ∧ Fleet H sl tt ∧ pr ≤ 999 ∧ m ≤ 7 ∧
  ∀ H' p, Same H H' → H' p = some (.tup [nV (argBest (fun a b => decide (cost tt pr a < cost tt pr b)) m + 1), nV (cost tt pr (argBest (fun a b => decide (cost tt pr a < cost tt pr b)) m))]) → Q (.ref p) H'
section
variable {P : Program} {w : World} {K : PySem.W.Frag} {mg : Str → Option Value} {base : Heap} {C : Addr}
theorem def_opt_t (D : DefF K mg "optimal_timetable" s_opt_t) (T : Txt K mg C) (D1 : Def P w K mg base 1 "arrival_hours" ["ships"] spHours) (D2 : Def P w K mg base 5 "with_one_departure" ["ships", "hours"] spOne)
    (D3 : Def P w K mg base 5 "with_another_departure" ["ships", "hours", "best"] spAnother) : Def P w K mg base 6 "optimal_timetable" ["ships", "count"] spOptT := by
  refine Def.mk' D sc_opt_t (fun _ _ _ _ _ _ us hl => match us, hl with | [_, _], _ => rfl) (fun vs H Q E h => ?_) (fun f cdv A outer s H vs Q E hr h => ?_)
  · obtain ⟨sl, tt, n, rfl, _⟩ := h
    rfl
  obtain ⟨sl, tt, n, rfl, F, hn1, hn9, k⟩ := h
  have nd := sc_opt_t.nd
  refine ⟨_, pss_cons (ps_set (i := 2) nd rfl (Or.inl rfl) (pe_callD D1 (hr.mono (by decide)) (pa_cons (pv 0) pa_nil)))
    (pss_cons (ps_set (i := 3) nd rfl (Or.inl rfl) (pe_callD D2 hr (pa_cons (pv 0) (pa_cons (pv 2) pa_nil))))
    (pss_cons (ps_for PassesOwn.never rfl (pi_range2 rfl T.range (pa_cons pe_int (pa_cons (pv 1) pa_nil))) (pg_name (i := 4) nd rfl (Or.inl rfl))
      (pss_one (ps_set (i := 3) nd rfl (Or.inl rfl) (pe_callD D3 hr (pa_cons (pv 0) (pa_cons (pv 2) (pa_cons (pv 3) pa_nil)))))))
    (pss_one (ps_ret (pe_ix ix_list (pv 3) pe_int (fun _ _ => rfl)))))), ?_⟩
  obtain ⟨zs, hZ, hz, h8, h9⟩ := F.ex
  have hs1 := hours_sorted tt
  have hl9 : (Km561.arrivalHours tt).length ≤ 9 := Nat.le_trans (hours_len tt) F.len
  refine ⟨_, rfl, sl, zs, tt, rfl, hZ, hz, h8, fun H1 hl s1 hH1 _ => ?_⟩
  refine ⟨_, rfl, _, rfl, sl, hl, zs, tt, Km561.arrivalHours tt, rfl, hZ.same s1, hz, h8, h9, hH1, hl9, fun H2 l2 rs2 s2 hR2 hrs2 => ?_⟩
  refine ⟨_, rfl, _, _, rfl, ⟨by omega, by omega, by omega, by omega⟩, for_range (lo := 1) (n := ((n : Int) - 1).toNat)
    (fun i σ H' => Same H1 H' ∧ ∃ (l : Addr) (rs : List BRow) (v4 : Option V), σ = [some (.ref sl), some (nV n), some (.ref hl), some (.ref l), v4] ∧ RowsH H' l rs ∧ rs.map rowP = rowsAt tt (Km561.arrivalHours tt) (i + 1))
    ⟨s2, l2, rs2, none, rfl, hR2, hrs2⟩ ?_ ?_⟩
  · rintro i σ H3 hi ⟨sm, l, rs, v4, rfl, hR, hrs⟩
    refine ⟨_, rfl, _, rfl, _, rfl, sl, hl, l, zs, tt, Km561.arrivalHours tt, rs, i, rfl, (hZ.same s1).same sm, hz, h8, h9, sm _ _ hH1, hl9, hs1, hR, hrs, fun j => ?_, fun H4 l4 rs4 s4 hR4 hrs4 => ?_⟩
    · have := best_len (tt := tt) hs1 i j
      omega
    · exact ⟨sm.trans s4, l4, rs4, _, rfl, hR4, hrs4⟩
  · rintro σ H3 ⟨sm, l, rs, v4, rfl, hR, hrs⟩
    have en : ((n : Int) - 1).toNat + 1 = n := by omega
    rw [en] at hrs
    obtain ⟨r, h1, h2⟩ : ∃ r, rs[0]? = some r ∧ rowP r = bestAt tt (Km561.arrivalHours tt) n 0 := row_at (n := (Km561.arrivalHours tt).length + 1) hrs (by omega)
    have rA := hR.at_ r (List.mem_of_getElem? h1)
    refine ⟨_, rfl, l, _, _, V.ref r.p, rfl, rfl, SqL.of hR.lst, atI_nat (j := 0) (by rw [List.getElem?_map, h1]; rfl), ?_⟩
    have e1 : r.w = (bestOf tt n).1 := congrArg Prod.fst h2
    have e2 : r.hs = (bestOf tt n).2 := congrArg Prod.snd h2
    refine k H3 r.p r.q (s1.trans sm) ?_ ?_
    · rw [← e1]
      exact rA.pr
    · rw [← e2]
      exact rA.ds
theorem def_opt_w (D : DefF K mg "optimal_waiting" s_opt_w) (D1 : Def P w K mg base 6 "optimal_timetable" ["ships", "count"] spOptT) : Def P w K mg base 7 "optimal_waiting" ["ships", "count"] spOptW := by
  refine Def.mk' D sc_opt_w (fun _ _ _ _ _ _ us hl => match us, hl with | [_, _], _ => rfl) (fun vs H Q E h => ?_) (fun f cdv A outer s H vs Q E hr h => ?_)
  · obtain ⟨sl, tt, n, rfl, _⟩ := h
    rfl
  obtain ⟨sl, tt, n, rfl, F, hn1, hn9, k⟩ := h
  refine ⟨_, pss_one (ps_ret (pe_ix ix_tup (pe_callD D1 hr (pa_cons (pv 0) (pa_cons (pv 1) pa_nil))) pe_int (fun _ _ => rfl))), ?_⟩
  refine ⟨_, rfl, _, rfl, sl, tt, n, rfl, F, hn1, hn9, fun H1 p q s1 hp hq => ?_⟩
  refine ⟨p, _, _, _, rfl, rfl, SqT.of hp, atI_nat (j := 0) rfl, ?_⟩
  have z := k H1 s1
  rw [bestOf_w (by omega)] at z
  exact z
theorem def_smallest (D : DefF K mg "smallest_count" s_smallest) (D1 : Def P w K mg base 7 "optimal_waiting" ["ships", "count"] spOptW) : Def P w K mg base 8 "smallest_count" ["ships", "limit"] spSmallest := by
  refine Def.mk' D sc_smallest (fun _ _ _ _ _ _ us hl => match us, hl with | [_, _], _ => rfl) (fun vs H Q E h => ?_) (fun f cdv A outer s H vs Q E hr h => ?_)
  · obtain ⟨sl, tt, l, m, rfl, _⟩ := h
    rfl
  obtain ⟨sl, tt, l, m, rfl, F, hm1, hm9, hw, hno, k⟩ := h
  have nd := sc_smallest.nd
  refine ⟨_, pss_cons (ps_set (i := 2) nd rfl (Or.inl rfl) pe_int)
    (pss_cons (ps_while PassesOwn.never (pt_cmpR op_gt (pe_callD D1 hr (pa_cons (pv 0) (pa_cons (pv 2) pa_nil))) (pv 1) (nomark _)) (pss_one (ps_aug (i := 2) nd rfl (Or.inl rfl) pe_int ip_add)))
    (pss_one (ps_ret (pv 2)))), ?_⟩
  refine ⟨fun mm σ H' => ∃ c : Nat, mm = m - c ∧ 1 ≤ c ∧ c ≤ m ∧ σ = [some (.ref sl), some (nV l), some (nV c)] ∧ Same H H', ⟨_, 1, rfl, Nat.le_refl 1, hm1, rfl, Same.refl H⟩, ?_⟩
  rintro mm σ H1 ⟨c, rfl, hc1, hcm, rfl, sm⟩
  refine ⟨_, rfl, _, rfl, sl, tt, c, rfl, F.same sm, hc1, by omega, fun H2 s2 => ?_⟩
  refine ⟨_, rfl, _, _, rfl, rfl, _, rfl, ite2 (fun q => ?_) (fun q => ?_)⟩
  · have q' : l < Km561.optimalWaiting tt c := by
      have := of_decide_eq_true q
      omega
    have ne : c ≠ m := fun z => by
      rw [z] at q'
      omega
    refine ⟨_, fun σ' H' z => ⟨m - (c + 1), by omega, z⟩, ?_⟩
    refine ⟨_, rfl, _, _, rfl, rfl, c + 1, rfl, by omega, by omega, rfl, sm.trans s2⟩
  · have q' : Km561.optimalWaiting tt c ≤ l := by
      rcases Nat.lt_or_ge l (Km561.optimalWaiting tt c) with z | z
      · exact absurd (decide_eq_true (show (Km561.optimalWaiting tt c : Int) > (l : Int) by omega)) q
      · exact z
    have e : c = m := by
      rcases Nat.lt_or_ge c m with z | z
      · exact absurd q' (hno c hc1 z)
      · omega
    subst e
    exact ⟨_, rfl, k H2 (sm.trans s2)⟩
/-! ### the cheapest count -/
structure CRow where
  p : Addr
  w : Nat
  n : Nat
def RowC (H : Hp) (r : CRow) : Prop := H r.p = some (.tup [nV r.w, nV r.n])
def rowC (r : CRow) : Nat × Nat := (r.w, r.n)
def minRowC (r : CRow) : MinRow := ⟨r.p, (r.w : Int), nV r.n, (r.n : Int)⟩
theorem row_atG {α β : Type} {g : α → β} {rs : List α} {f : Nat → β} {n : Nat} (e : rs.map g = (List.range n).map f) {j : Nat} (h : j < n) : ∃ r, rs[j]? = some r ∧ g r = f j := by
  have q := congrArg (fun l => l[j]?) e
  simp only [List.getElem?_map, List.getElem?_range h, Option.map_some] at q
  obtain ⟨r, h1, h2⟩ := Option.map_eq_some_iff.mp q
  exact ⟨r, h1, h2⟩
theorem rows_nG {α β : Type} {g : α → β} {rs : List α} {f : Nat → β} {n : Nat} (e : rs.map g = (List.range n).map f) : rs.length = n := by
  have q := congrArg List.length e
  rw [List.length_map, List.length_map, List.length_range] at q
  exact q
theorem nat_sum (a b c : Nat) : (a : Int) + (b : Int) * (c : Int) = ((a + b * c : Nat) : Int) := by
  rw [Int.natCast_add, Int.natCast_mul]
theorem def_cheapest (D : DefF K mg "cheapest_choice" s_cheapest) (T : Txt K mg C) (D1 : Def P w K mg base 7 "optimal_waiting" ["ships", "count"] spOptW) : Def P w K mg base 8 "cheapest_choice" ["ships", "price", "most"] spCheapest := by
  refine Def.mk' D sc_cheapest (fun _ _ _ _ _ _ us hl => match us, hl with | [_, _, _], _ => rfl) (fun vs H Q E h => ?_) (fun f cdv A outer s H vs Q E hr h => ?_)
  · obtain ⟨sl, tt, l, m, rfl, _⟩ := h
    rfl
  obtain ⟨sl, tt, pr, m, rfl, F, hp, hm7, k⟩ := h
  have nd := sc_cheapest.nd
  have hu : (A.deeper (envOfC "cheapest_choice" (defScope s_cheapest) s.heap.objs.size f cdv)).units + 64 < cLine := hr.units
  refine ⟨_, pss_cons (ps_setLc (i := 3) (own := [("count", 5)]) (g := gName 5) (by rfl) nd rfl rfl (sw_true rfl rfl rfl (by decide +kernel)) (pi_range2 rfl T.range (pa_cons pe_int (pa_cons (pe_op op_add (pv 2) pe_int) pa_nil)))
      (blkOk_by (own := [("count", 5)]) (N := ["ships", "price", "most", "costs", "cheapest", "count"]) (sc := defScope s_cheapest) (by decide +kernel))
      (fun _ _ _ _ _ => pg_name (i := 5) nd rfl (Or.inl rfl)) (fun _ _ _ _ _ => pts_nil) (fun _ _ _ _ _ => pe_tup (pa_cons (pe_op op_add (pe_callD D1 hr (pa_cons (pv 0) (pa_cons (pv 5) pa_nil))) (pe_op op_mul (pv 1) (pv 5))) (pa_cons (pv 5) pa_nil))))
    (pss_cons (ps_set (i := 4) nd rfl (Or.inl rfl) (pe_callB (cr_minT false (by rfl) hu) (by rfl) T.min (by decide +kernel) (pa_cons (pv 3) pa_nil)))
    (pss_one (ps_ret (pe_tup (pa_cons (pe_ix ix_tup (pv 4) pe_int (fun _ _ => rfl)) (pa_cons (pe_ix ix_tup (pv 4) pe_int (fun _ _ => rfl)) pa_nil)))))), ?_⟩
  refine ⟨_, rfl, _, _, rfl, rfl, _, _, rfl, ⟨by omega, by omega, by omega, by omega⟩, fun D hD => ?_⟩
  have en : (((m + 1 : Nat) : Int) + 1 - 1).toNat = m + 1 := by omega
  rw [en]
  refine lc_range (lo := 1) (n := m + 1) (fun i H' => Same H H' ∧ ∃ rs : List CRow, H' D = some (.lst (rs.map fun r => V.ref r.p)) ∧ (∀ r ∈ rs, RowC H' r) ∧ rs.map rowC = (List.range i).map fun j => (cost tt pr j, j + 1))
    ⟨same_upd hD, [], upd_same, (fun r m => by cases m), rfl⟩ ?_ ?_
  · rintro i H1 hi ⟨sm, rs, hd, hrs1, hrs⟩
    have rl := rows_nG hrs
    have e1 : (1 : Int) + (i : Int) = ((i + 1 : Nat) : Int) := by omega
    rw [e1]
    refine ⟨rfl, ?_⟩
    refine yes_ ?_
    refine iteT ?_
    refine ⟨_, rfl, _, rfl, sl, tt, i + 1, rfl, F.same sm, by omega, by omega, fun H2 s2 => ?_⟩
    refine ⟨_, rfl, _, rfl, _, _, rfl, rfl, .inl ⟨by omega, by omega⟩, _, _, rfl, rfl, _, rfl, by show 2 ≤ sizeLine; decide, fun p hp2 => ?_⟩
    have ew : V.int (((Km561.optimalWaiting tt (i + 1) : Nat) : Int) + (pr : Int) * ((i + 1 : Nat) : Int)) = nV (cost tt pr i) := congrArg V.int (nat_sum _ _ _)
    have s3 := Same.upd (o := .tup [V.int (((Km561.optimalWaiting tt (i + 1) : Nat) : Int) + (pr : Int) * ((i + 1 : Nat) : Int)), nV (i + 1)]) s2 hp2
    have rA : RowC (upd H2 p (.tup [V.int (((Km561.optimalWaiting tt (i + 1) : Nat) : Int) + (pr : Int) * ((i + 1 : Nat) : Int)), nV (i + 1)])) ⟨p, cost tt pr i, i + 1⟩ := by
      unfold RowC
      rw [upd_same, ew]
    have hd3 := s3 _ _ hd
    have put : ∀ r : CRow, ∀ o, RowC _ r → RowC (upd _ D o) r := fun r o h => by
      unfold RowC
      rw [upd_ne (ne_of h hd3 (by intro z; cases z))]
      exact h
    refine ⟨_, hd3, by rw [List.length_map]; exact nine (by omega), fun b o e => ?_, rs ++ [⟨p, cost tt pr i, i + 1⟩], ?_, fun r hr => ?_, ?_⟩
    · rw [upd_ne (ne_of_none e hD)]
      exact (sm.trans s3) _ _ e
    · rw [upd_same, List.map_append]
      rfl
    · rcases List.mem_append.mp hr with hr | hr
      · exact put r _ (s3 _ _ (hrs1 r hr))
      · rw [List.mem_singleton.mp hr]
        exact put _ _ rA
    · rw [List.map_append, hrs, List.range_succ, List.map_append]
      rfl
  · rintro H1 ⟨sm, rs, hd, hrs1, hrs⟩
    have rl := rows_nG hrs
    refine ⟨_, rfl, D, rs.map minRowC, rfl, SqL.of ?_, by rw [List.length_map]; omega, fun r hr => ?_, ?_, fun r hr => ?_⟩
    · rw [hd, List.map_map]
      rfl
    · obtain ⟨r', hr', rfl⟩ := List.mem_map.mp hr
      exact ⟨SqT.of (hrs1 r' hr'), rfl⟩
    · refine List.pairwise_map.mpr (List.pairwise_iff_getElem.mpr fun a b ha hb hab => ?_)
      obtain ⟨ra, h1, h2⟩ := row_atG hrs (j := a) (by omega)
      obtain ⟨rb, h3, h4⟩ := row_atG hrs (j := b) (by omega)
      rw [List.getElem?_eq_getElem ha] at h1
      rw [List.getElem?_eq_getElem hb] at h3
      rw [Option.some.inj h1, Option.some.inj h3]
      have q1 : ra.n = a + 1 := congrArg Prod.snd h2
      have q2 : rb.n = b + 1 := congrArg Prod.snd h4
      show (ra.n : Int) < (rb.n : Int)
      omega
    · have el : argBest (lessW (rs.map minRowC)) m = argBest (fun a b => decide (cost tt pr a < cost tt pr b)) m := by
        refine best_congr fun a b ha hb => ?_
        obtain ⟨ra, h1, h2⟩ := row_atG hrs (j := a) (by omega)
        obtain ⟨rb, h3, h4⟩ := row_atG hrs (j := b) (by omega)
        have g : ∀ (k : Nat) (r : CRow), rs[k]? = some r → ((rs.map minRowC).map (·.w)).getD k 0 = (r.w : Int) := fun k r q => by
          rw [List.getD_eq_getElem?_getD, List.getElem?_map, List.getElem?_map, q]
          rfl
        have q1 : ra.w = cost tt pr a := congrArg Prod.fst h2
        have q2 : rb.w = cost tt pr b := congrArg Prod.fst h4
        unfold lessW
        rw [g a ra h1, g b rb h3, q1, q2]
        exact dec_congr (by omega)
      rw [List.length_map, rl, Nat.add_sub_cancel, el, List.getElem?_map] at hr
      obtain ⟨r', h1, h2⟩ := Option.map_eq_some_iff.mp hr
      subst h2
      have hlt := best_le (fun a b => decide (cost tt pr a < cost tt pr b)) m
      obtain ⟨r2, h3, h4⟩ := row_atG hrs (j := argBest (fun a b => decide (cost tt pr a < cost tt pr b)) m) (by omega)
      rw [h1] at h3
      cases h3
      have q1 : r'.w = cost tt pr (argBest (fun a b => decide (cost tt pr a < cost tt pr b)) m) := congrArg Prod.fst h4
      have q2 : r'.n = argBest (fun a b => decide (cost tt pr a < cost tt pr b)) m + 1 := congrArg Prod.snd h4
      have hrow : H1 r'.p = some (.tup [nV r'.w, nV r'.n]) := hrs1 r' (List.mem_of_getElem? h1)
      refine ⟨_, rfl, r'.p, _, _, _, rfl, rfl, SqT.of hrow, atI_nat (j := 1) rfl, _, rfl, r'.p, _, _, _, rfl, rfl, SqT.of hrow, atI_nat (j := 0) rfl, by show 2 ≤ sizeLine; decide, fun p hp2 => ?_⟩
      refine k _ p (Same.upd sm hp2) ?_
      rw [upd_same, q1, q2]
end
end Ct
set_option Elab.async false
set_option maxRecDepth 100000
set_option maxHeartbeats 4000000
namespace Ct
open PySem PySem.Spec PyProof.Rows L2
open Km561 (Ship Timetable)
abbrev s_is_count : Stmt := top 30
abbrev s_counted : Stmt := top 32
abbrev s_opt_deps : Stmt := top 46
abbrev s_use_opt : Stmt := top 47
abbrev s_excess : Stmt := top 48
abbrev s_saving : Stmt := top 49
theorem sc_is_count : FnScope ["number"] ["number"] (defScope s_is_count) := ⟨rfl, rfl, rfl, by decide +kernel, rfl, by decide +kernel, by decide +kernel⟩
theorem sc_counted : FnScope ["instance"] ["instance"] (defScope s_counted) := ⟨rfl, rfl, rfl, by decide +kernel, rfl, by decide +kernel, by decide +kernel⟩
theorem sc_opt_deps : FnScope ["instance", "max_departures", "best"] ["instance", "max_departures"] (defScope s_opt_deps) := ⟨rfl, rfl, rfl, by decide +kernel, rfl, by decide +kernel, by decide +kernel⟩
theorem sc_use_opt : FnScope ["instance", "max_departures", "best"] ["instance", "max_departures"] (defScope s_use_opt) := ⟨rfl, rfl, rfl, by decide +kernel, rfl, by decide +kernel, by decide +kernel⟩
theorem sc_excess : FnScope ["instance", "total"] ["instance"] (defScope s_excess) := ⟨rfl, rfl, rfl, by decide +kernel, rfl, by decide +kernel, by decide +kernel⟩
theorem sc_saving : FnScope ["instance", "k"] ["instance", "k"] (defScope s_saving) := ⟨rfl, rfl, rfl, by decide +kernel, rfl, by decide +kernel, by decide +kernel⟩
def spIsCount : Sp := fun vs H Q _ => ∃ n : Nat, vs = [nV n] ∧ Q (.bl (decide (1 ≤ n ∧ n ≤ 8))) H
def spCounted (C : Addr) : Sp := fun vs H Q _ => ∃ (a sl dl : Addr) (zs : List (Addr × Ship)) (tt : Timetable), vs = [.ref a] ∧ TT C H a sl dl zs tt ∧ Q (nV (max 1 tt.departures.length)) H
theorem TT.fleet {C : Addr} {H : Hp} {a sl dl : Addr} {zs : List (Addr × Ship)} {tt : Timetable} (T : TT C H a sl dl zs tt) (G : Good tt) : Fleet H sl tt := ⟨zs, T.sh, T.zs_, Nat.le_trans (G.sl T.zs_) (by decide), T.wgt9 G⟩
theorem toInts_nV (ds : List Nat) : (Km561.toInts ds).map V.int = ds.map nV := by
  unfold Km561.toInts
  rw [List.map_map]
  rfl
section
variable {P : Program} {w : World} {K : PySem.W.Frag} {mg : Str → Option Value} {base : Heap} {C : Addr}
theorem def_is_count (D : DefF K mg "is_departure_count" s_is_count) (T : Txt K mg C) : Def P w K mg base 1 "is_departure_count" ["number"] spIsCount := by
  refine Def.mk' D sc_is_count (fun _ _ _ _ _ _ us hl => match us, hl with | [_], _ => rfl) (fun vs H Q E h => ?_) (fun f cdv A outer s H vs Q E hr h => ?_)
  · obtain ⟨n, rfl, _⟩ := h
    rfl
  obtain ⟨n, rfl, k⟩ := h
  refine ⟨_, pss_one (ps_ret (pe_chain op_le op_le pe_int (pv 0) (pe_conF T.mostD))), ?_⟩
  refine ⟨_, rfl, _, _, rfl, rfl, _, rfl, ite2 (fun c => ?_) (fun c => ?_)⟩
  · have c' := of_decide_eq_true c
    refine ⟨_, _, rfl, rfl, ?_⟩
    rw [dec_congr (show (1 ≤ n ∧ n ≤ 8) ↔ (n : Int) ≤ 8 by omega)] at k
    exact k
  · have c' : ¬ (1 : Int) ≤ (n : Int) := fun z => c (decide_eq_true z)
    rw [decide_eq_false (show ¬ (1 ≤ n ∧ n ≤ 8) by omega)] at k
    exact k
theorem def_counted (D : DefF K mg "counted_departures" s_counted) (T : Txt K mg C) : Def P w K mg base 1 "counted_departures" ["instance"] (spCounted C) := by
  refine Def.mk' D sc_counted (fun _ _ _ _ _ _ us hl => match us, hl with | [_], _ => rfl) (fun vs H Q E h => ?_) (fun f cdv A outer s H vs Q E hr h => ?_)
  · obtain ⟨a, sl, dl, zs, tt, rfl, _⟩ := h
    rfl
  obtain ⟨a, sl, dl, zs, tt, rfl, hT, k⟩ := h
  obtain ⟨dx, hi⟩ := hT.ins
  refine ⟨_, pss_one (ps_ret (pe_callB (call_max2 (by rfl)) (by rfl) T.max (by decide +kernel) (pa_cons pe_int (pa_cons (pe_callB call_len_seq (by rfl) T.len PySem.boot_len (pa_cons (pe_fld (pv 0) rfl) pa_nil)) pa_nil)))), ?_⟩
  refine ⟨_, rfl, a, C, dx, _, _, rfl, hi, T.cl, T.nD, lkD, dl, _, rfl, .inl (SqL.of hT.dep), _, _, rfl, ?_⟩
  rw [List.length_map]
  have e : V.int (if (tt.departures.length : Int) > 1 then (tt.departures.length : Int) else 1) = nV (max 1 tt.departures.length) := by
    refine congrArg V.int ?_
    by_cases c : (tt.departures.length : Int) > 1
    · rw [if_pos c, Nat.max_eq_right (by omega)]
    · rw [if_neg c, Nat.max_eq_left (by omega)]
      rfl
  rw [e]
  exact k
theorem def_opt_deps (D : DefF K mg "optimal_departures" s_opt_deps) (T : Txt K mg C) (D1 : Def P w K mg base 1 "is_departure_count" ["number"] spIsCount) (D2 : Def P w K mg base 6 "optimal_timetable" ["ships", "count"] spOptT) :
    Def P w K mg base 7 "optimal_departures" ["instance", "max_departures"] (spOp C 1 (c1 .optimalDepartures)) := by
  refine Def.mk' D sc_opt_deps (fun _ _ _ _ _ _ us hl => match us, hl with | [_, _], _ => rfl) (fun vs H Q E h => spOp_len h) (fun f cdv A outer s H vs Q E hr h => ?_)
  obtain ⟨a, sl, dl, zs, tt, tt', r, xs, rfl, hl, hT, hG, hst, k⟩ := h
  obtain ⟨x, rfl⟩ := len1 hl
  obtain ⟨dx, hi⟩ := hT.ins
  refine ⟨_, pss_cons (ps_if (pt_not (pt_val (pe_callD D1 (hr.mono (by decide)) (pa_cons (pv 1) pa_nil)))) (pss_one (ps_ret (pe_lst (pa_cons (pe_conF T.range_) pa_nil)))) pss_nil)
    (pss_cons (ps_set (i := 2) sc_opt_deps.nd rfl (Or.inl rfl) (pe_callD D2 hr (pa_cons (pe_fld (pv 0) rfl) (pa_cons (pv 1) pa_nil))))
    (pss_one (ps_ret (pe_op op_cat (pe_lst (pa_cons (pe_ix ix_tup (pv 2) pe_int (fun _ _ => rfl)) pa_nil)) (pe_callTy call_list_of (by rfl) T.list (by decide +kernel) (pa_cons (pe_ix ix_tup (pv 2) pe_int (fun _ _ => rfl)) pa_nil)))))), ?_⟩
  have hstep : Km561.step (some tt) (.optimalDepartures x) = (some tt', r) := hst
  unfold Km561.step at hstep
  dsimp only at hstep
  refine ⟨_, rfl, x, rfl, _, rfl, ?_⟩
  by_cases cx : 1 ≤ x ∧ x ≤ 8
  · rw [decide_eq_true cx]
    refine iteF ?_
    rw [if_neg (show ¬ (x = 0 ∨ Km561.maxShips < x) by show ¬ (x = 0 ∨ 8 < x); omega), bestOf_is (by omega)] at hstep
    cases hstep
    refine ⟨_, rfl, a, C, dx, _, _, rfl, hi, T.cl, T.nS, lkS, _, rfl, sl, tt, x, rfl, hT.fleet hG, cx.1, by omega, fun H1 p q s1 hp hq => ?_⟩
    refine ⟨_, rfl, p, _, _, _, rfl, rfl, SqT.of hp, atI_nat (j := 0) rfl, by show 1 ≤ sizeLine; decide, fun l1 hl1 => ?_⟩
    have s2 := Same.upd (o := .lst [nV (bestOf tt x).1]) (Same.refl H1) hl1
    refine ⟨_, rfl, p, _, _, _, rfl, rfl, SqT.of (s2 _ _ hp), atI_nat (j := 1) rfl, q, _, rfl, .inr (SqT.of (s2 _ _ hq)), fun l2 hl2 => ?_⟩
    have s3 := Same.upd (o := .lst ((bestOf tt x).2.map nV)) s2 hl2
    have n12 : l1 ≠ l2 := fun z => by
      rw [← z, upd_same] at hl2
      cases hl2
    have hb := best_len (hours_sorted tt) (tt := tt) (x - 1) 0
    rw [show x - 1 + 1 = x by omega] at hb
    refine ⟨l1, l2, _, _, rfl, rfl, by rw [upd_ne n12]; exact upd_same, upd_same, ?_, fun l3 hl3 => ?_⟩
    · rw [List.length_map]
      exact Nat.le_trans (show 1 + (bestOf tt x).2.length ≤ 10 by have : (bestOf tt x).2.length ≤ x := hb; omega) (by decide)
    have s4 := Same.upd (o := .lst ([nV (bestOf tt x).1] ++ (bestOf tt x).2.map nV)) s3 hl3
    refine k.same hT (s1.trans s4) ?_ ((s1.trans s3).free hl3)
    rw [upd_same, List.map_cons, toInts_nV]
    rfl
  · rw [decide_eq_false cx]
    rw [if_pos (show x = 0 ∨ Km561.maxShips < x by show x = 0 ∨ 8 < x; omega)] at hstep
    cases hstep
    exact iteT ⟨by show 1 ≤ sizeLine; decide, fun p hp => k.one hT hp⟩
theorem def_use_opt (D : DefF K mg "use_optimal_departures" s_use_opt) (T : Txt K mg C) (D1 : Def P w K mg base 1 "is_departure_count" ["number"] spIsCount) (D2 : Def P w K mg base 6 "optimal_timetable" ["ships", "count"] spOptT) :
    Def P w K mg base 7 "use_optimal_departures" ["instance", "max_departures"] (spOp C 1 (c1 .useOptimalDepartures)) := by
  refine Def.mk' D sc_use_opt (fun _ _ _ _ _ _ us hl => match us, hl with | [_, _], _ => rfl) (fun vs H Q E h => spOp_len h) (fun f cdv A outer s H vs Q E hr h => ?_)
  obtain ⟨a, sl, dl, zs, tt, tt', r, xs, rfl, hl, hT, hG, hst, k⟩ := h
  obtain ⟨x, rfl⟩ := len1 hl
  obtain ⟨dx, hi⟩ := hT.ins
  refine ⟨_, pss_cons (ps_if (pt_not (pt_val (pe_callD D1 (hr.mono (by decide)) (pa_cons (pv 1) pa_nil)))) (pss_one (ps_ret (pe_lst (pa_cons (pe_conF T.range_) pa_nil)))) pss_nil)
    (pss_cons (ps_set (i := 2) sc_use_opt.nd rfl (Or.inl rfl) (pe_callD D2 hr (pa_cons (pe_fld (pv 0) rfl) (pa_cons (pv 1) pa_nil))))
    (pss_cons (ps_fld (pv 0) (pe_callTy call_list_of (by rfl) T.list (by decide +kernel) (pa_cons (pe_ix ix_tup (pv 2) pe_int (fun _ _ => rfl)) pa_nil)) rfl)
    (pss_one (ps_ret (pe_lst (pa_cons (pe_ix ix_tup (pv 2) pe_int (fun _ _ => rfl)) pa_nil)))))), ?_⟩
  have hstep : Km561.step (some tt) (.useOptimalDepartures x) = (some tt', r) := hst
  unfold Km561.step at hstep
  dsimp only at hstep
  refine ⟨_, rfl, x, rfl, _, rfl, ?_⟩
  by_cases cx : 1 ≤ x ∧ x ≤ 8
  · rw [decide_eq_true cx]
    refine iteF ?_
    rw [if_neg (show ¬ (x = 0 ∨ Km561.maxShips < x) by show ¬ (x = 0 ∨ 8 < x); omega), bestOf_is (by omega)] at hstep
    cases hstep
    refine ⟨_, rfl, a, C, dx, _, _, rfl, hi, T.cl, T.nS, lkS, _, rfl, sl, tt, x, rfl, hT.fleet hG, cx.1, by omega, fun H1 p q s1 hp hq => ?_⟩
    refine ⟨_, rfl, p, _, _, _, rfl, rfl, SqT.of hp, atI_nat (j := 1) rfl, q, _, rfl, .inr (SqT.of hq), fun l2 hl2 => ?_⟩
    have s3 := Same.upd (o := .lst ((bestOf tt x).2.map nV)) (Same.refl H1) hl2
    have hl20 := s1.free hl2
    have s13 := s1.trans s3
    have hi3 := s13 _ _ hi
    refine ⟨_, rfl, a, C, dx, _, rfl, hi3, T.cl, T.nD, by show 2 < 1000; decide, ?_⟩
    rw [putD]
    have n2a : l2 ≠ a := (ne_of_none hi hl20).symm
    have npa : p ≠ a := ne_of hp (s1 _ _ hi) (by intro z; cases z)
    have hp3 : upd (upd H1 l2 (.lst ((bestOf tt x).2.map nV))) a (.ins C dx (iF sl l2)) p = some (.tup [nV (bestOf tt x).1, .ref q]) := by
      rw [upd_ne npa]
      exact s3 _ _ hp
    refine ⟨_, rfl, p, _, _, _, rfl, rfl, SqT.of hp3, atI_nat (j := 0) rfl, by show 1 ≤ sizeLine; decide, fun p2 hp2 => ?_⟩
    obtain ⟨np2, hp20⟩ := fresh_upd hp2
    have hp21 := s13.free hp20
    have n22 : l2 ≠ p2 := fun z => by
      rw [← z, upd_same] at hp20
      cases hp20
    have kp : ∀ b o, H b = some o → b ≠ a → upd (upd (upd H1 l2 (.lst ((bestOf tt x).2.map nV))) a (.ins C dx (iF sl l2))) p2 (.lst [nV (bestOf tt x).1]) b = some o := fun b o e nb => by
      rw [upd_ne (ne_of_none e hp21), upd_ne nb]
      exact s13 _ _ e
    refine k _ sl l2 zs p2 ?_ (.inl rfl) (.inr hl20) (fun b o e nb _ _ => kp b o e nb) ?_ hp21
    · refine hT.deps (fun b o e nb _ => kp b o e nb) ⟨dx, ?_⟩ ?_ (ne_of_none hT.sh.lst hl20) rfl
      · rw [upd_ne (Ne.symm np2), upd_same]
      · rw [upd_ne n22, upd_ne n2a, upd_same]
    · rw [upd_same]
      rfl
  · rw [decide_eq_false cx]
    rw [if_pos (show x = 0 ∨ Km561.maxShips < x by show x = 0 ∨ 8 < x; omega)] at hstep
    cases hstep
    exact iteT ⟨by show 1 ≤ sizeLine; decide, fun p hp => k.one hT hp⟩
end
end Ct
set_option Elab.async false
set_option maxRecDepth 100000
set_option maxHeartbeats 4000000
namespace Ct
open PySem PySem.Spec PyProof.Rows L2
open Km561 (Ship Timetable)
abbrev s_excess' : Stmt := top 48
abbrev s_min_deps : Stmt := top 50
abbrev s_cheap : Stmt := top 51
abbrev s_next : Stmt := top 53
abbrev s_per : Stmt := top 54
theorem sc_min_deps : FnScope ["instance", "limit"] ["instance", "limit"] (defScope s_min_deps) := ⟨rfl, rfl, rfl, by decide +kernel, rfl, by decide +kernel, by decide +kernel⟩
theorem sc_cheap : FnScope ["instance", "price"] ["instance", "price"] (defScope s_cheap) := ⟨rfl, rfl, rfl, by decide +kernel, rfl, by decide +kernel, by decide +kernel⟩
theorem sc_next : FnScope ["instance", "hour", "departure"] ["instance", "hour"] (defScope s_next) := ⟨rfl, rfl, rfl, by decide +kernel, rfl, by decide +kernel, by decide +kernel⟩
theorem sc_per : FnScope ["instance"] ["instance"] (defScope s_per) := ⟨rfl, rfl, rfl, by decide +kernel, rfl, by decide +kernel, by decide +kernel⟩
theorem none_served {tt : Timetable} (h : Km561.allServed tt [] = true) : tt.ships = [] := by
  unfold Km561.allServed at h
  cases e : tt.ships with
  | nil => rfl
  | cons s r =>
    rw [e] at h
    have := List.all_eq_true.mp h s (List.mem_cons_self ..)
    cases this
theorem nat_diff {a b : Nat} (h : b ≤ a) : (a : Int) - (b : Int) = ((a - b : Nat) : Int) := by omega
theorem least_up {p : Nat → Prop} : ∀ n, (∃ m, 1 ≤ m ∧ m ≤ n ∧ p m) → ∃ m, 1 ≤ m ∧ m ≤ n ∧ p m ∧ ∀ j, 1 ≤ j → j < m → ¬ p j
  | 0, ⟨m, h1, h2, _⟩ => by omega
  | n + 1, ⟨m, h1, h2, h3⟩ => by
    by_cases c : ∃ m, 1 ≤ m ∧ m ≤ n ∧ p m
    · obtain ⟨m', a1, a2, a3, a4⟩ := least_up n c
      exact ⟨m', a1, by omega, a3, a4⟩
    · exact ⟨m, h1, h2, h3, fun j hj hjm pj => c ⟨j, hj, by omega, pj⟩⟩
theorem cheap_none {tt : Timetable} {price : Nat} (h : Km561.shipCount tt = 0) : Km561.cheapestCount tt price = (0, 0) := by
  unfold Km561.cheapestCount
  rw [if_pos h]
  exact fold_keeps (P := fun b : Nat × Nat => b = (0, 0)) rfl fun b _ a _ => if_pos h
section
variable {P : Program} {w : World} {K : PySem.W.Frag} {mg : Str → Option Value} {base : Heap} {C : Addr}
theorem def_excess (D : DefF K mg "excess_waiting" s_excess) (T : Txt K mg C) (D1 : Def P w K mg base 3 "weighted_waiting" ["ships", "departures"] (spWeighted K)) (D2 : Def P w K mg base 7 "optimal_waiting" ["ships", "count"] spOptW) (D3 : Def P w K mg base 1 "counted_departures" ["instance"] (spCounted C)) :
    Def P w K mg base 8 "excess_waiting" ["instance"] (spOp C 0 (c0 .excessWaiting)) := by
  refine Def.mk' D sc_excess (fun _ _ _ _ _ _ us hl => match us, hl with | [_], _ => rfl) (fun vs H Q E h => spOp_len h) (fun f cdv A outer s H vs Q E hr h => ?_)
  obtain ⟨a, sl, dl, zs, tt, tt', r, xs, rfl, hl, hT, hG, hst, k⟩ := h
  obtain rfl := len0 hl
  obtain ⟨dx, hi⟩ := hT.ins
  refine ⟨_, pss_cons (ps_set (i := 1) sc_excess.nd rfl (Or.inl rfl) (pe_callD D1 (hr.mono (by decide)) (pa_cons (pe_fld (pv 0) rfl) (pa_cons (pe_fld (pv 0) rfl) pa_nil))))
    (pss_cons (ps_if (pt_cmp (pc_isN (pv 1))) (pss_one (ps_ret (pe_lst (pa_cons (pe_conF T.notServed) pa_nil)))) pss_nil)
    (pss_one (ps_ret (pe_lst (pa_cons (pe_op op_sub (pv 1) (pe_callD D2 hr (pa_cons (pe_fld (pv 0) rfl) (pa_cons (pe_callD D3 (hr.mono (by decide)) (pa_cons (pv 0) pa_nil)) pa_nil)))) pa_nil))))), ?_⟩
  have hstep : Km561.step (some tt) .excessWaiting = (some tt', r) := hst
  unfold Km561.step at hstep
  dsimp only at hstep
  cases hstep
  refine ⟨_, rfl, a, C, dx, _, _, rfl, hi, T.cl, T.nS, lkS, _, rfl, a, C, dx, _, _, rfl, hi, T.cl, T.nD, lkD, sl, dl, zs, tt.departures, rfl, hT.sh, SqL.of hT.dep, hT.wgt9 hG, ?_⟩
  rw [hT.zs_, weighted_is hG]
  cases e : Km561.allServed tt tt.departures with
  | false =>
    rw [e] at k
    rw [if_pos rfl]
    rw [if_pos rfl] at k
    exact ⟨_, rfl, _, rfl, iteT ⟨by show 1 ≤ sizeLine; decide, fun p hp => k.one hT hp⟩⟩
  | true =>
    rw [e] at k
    rw [if_neg (by decide)]
    rw [if_neg (by decide)] at k
    have hd8 := hG.dlen
    refine ⟨_, rfl, _, rfl, iteF ?_⟩
    refine ⟨_, rfl, _, rfl, a, C, dx, _, _, rfl, hi, T.cl, T.nS, lkS, _, rfl, a, sl, dl, zs, tt, rfl, hT, sl, tt, _, rfl, hT.fleet hG, Nat.le_max_left _ _, Nat.max_le.mpr ⟨by decide, by omega⟩, fun H1 s1 => ?_⟩
    refine ⟨_, _, rfl, rfl, by show 1 ≤ sizeLine; decide, fun p hp => k.same hT (Same.upd s1 hp) ?_ (s1.free hp)⟩
    rw [upd_same]
    by_cases cd : tt.departures = []
    · rw [if_pos cd]
      have hs0 := none_served (tt := tt) (by rw [← cd]; exact e)
      have e1 : Km561.totalWaiting tt tt.departures = 0 := by
        unfold Km561.totalWaiting
        rw [hs0]
        rfl
      have e2 : Km561.optimalWaiting tt (max 1 tt.departures.length) = 0 := by
        refine optimal_zero ?_
        rw [hs0]
        exact Nat.zero_le _
      rw [e1, e2]
      rfl
    · rw [if_neg cd]
      have hlen : max 1 tt.departures.length = tt.departures.length := Nat.max_eq_right (Nat.pos_of_ne_zero fun z => cd (List.eq_nil_of_length_eq_zero z))
      have hle := optimal_le_total (tt := tt) (k := tt.departures.length) hG.srt (Nat.le_refl _) e
      rw [hlen]
      show some (HO.lst [V.int ((Km561.totalWaiting tt tt.departures : Int) - (Km561.optimalWaiting tt tt.departures.length : Int))]) = _
      rw [nat_diff hle]
      rfl
theorem def_saving (D : DefF K mg "saving_of_departure" s_saving) (T : Txt K mg C) (D2 : Def P w K mg base 7 "optimal_waiting" ["ships", "count"] spOptW) :
    Def P w K mg base 8 "saving_of_departure" ["instance", "k"] (spOp C 1 (c1 .savingOfDeparture)) := by
  refine Def.mk' D sc_saving (fun _ _ _ _ _ _ us hl => match us, hl with | [_, _], _ => rfl) (fun vs H Q E h => spOp_len h) (fun f cdv A outer s H vs Q E hr h => ?_)
  obtain ⟨a, sl, dl, zs, tt, tt', r, xs, rfl, hl, hT, hG, hst, k⟩ := h
  obtain ⟨x, rfl⟩ := len1 hl
  obtain ⟨dx, hi⟩ := hT.ins
  refine ⟨_, pss_cons (ps_if (pt_not (pt_chain op_le op_le pe_int (pv 1) (pe_conF T.mostD))) (pss_one (ps_ret (pe_lst (pa_cons (pe_conF T.range_) pa_nil)))) pss_nil)
    (pss_one (ps_ret (pe_lst (pa_cons (pe_op op_sub (pe_callD D2 hr (pa_cons (pe_fld (pv 0) rfl) (pa_cons (pe_op op_sub (pv 1) pe_int) pa_nil))) (pe_callD D2 hr (pa_cons (pe_fld (pv 0) rfl) (pa_cons (pv 1) pa_nil)))) pa_nil)))), ?_⟩
  have hstep : Km561.step (some tt) (.savingOfDeparture x) = (some tt', r) := hst
  unfold Km561.step at hstep
  dsimp only at hstep
  cases hstep
  have no : ¬ (2 ≤ x ∧ x ≤ 8) → ∀ p, H p = none → Q (.ref p) (upd H p (.lst [.int (-22)])) := fun c p hp => by
    rw [if_pos (show x < 2 ∨ Km561.maxShips < x by show x < 2 ∨ 8 < x; omega)] at k
    exact k.one hT hp
  refine ⟨_, rfl, _, _, rfl, rfl, _, rfl, ite2 (fun c => ?_) (fun c => ?_)⟩
  · have c' := of_decide_eq_true c
    refine ⟨_, _, rfl, rfl, _, rfl, ?_⟩
    by_cases c2 : (x : Int) ≤ 8
    · rw [decide_eq_true c2]
      rw [if_neg (show ¬ (x < 2 ∨ Km561.maxShips < x) by show ¬ (x < 2 ∨ 8 < x); omega)] at k
      refine iteF ?_
      have e1 : (x : Int) - 1 = ((x - 1 : Nat) : Int) := by omega
      refine ⟨_, rfl, a, C, dx, _, _, rfl, hi, T.cl, T.nS, lkS, _, rfl, _, _, rfl, rfl, sl, tt, x - 1, by show [V.ref sl, V.int ((x : Int) - 1)] = _; rw [e1], hT.fleet hG, by omega, by omega, fun H1 s1 => ?_⟩
      refine ⟨_, rfl, a, C, dx, _, _, rfl, s1 _ _ hi, T.cl, T.nS, lkS, _, rfl, sl, tt, x, rfl, (hT.fleet hG).same s1, by omega, by omega, fun H2 s2 => ?_⟩
      have s12 := s1.trans s2
      refine ⟨_, _, rfl, rfl, by show 1 ≤ sizeLine; decide, fun p hp => k.same hT (Same.upd s12 hp) ?_ (s12.free hp)⟩
      rw [upd_same]
      have hle := optimal_mono (tt := tt) (k := x - 1) (by omega)
      rw [show x - 1 + 1 = x by omega] at hle
      show some (HO.lst [V.int ((Km561.optimalWaiting tt (x - 1) : Int) - (Km561.optimalWaiting tt x : Int))]) = _
      rw [nat_diff hle]
      rfl
    · rw [decide_eq_false c2]
      exact iteT ⟨by show 1 ≤ sizeLine; decide, no fun z => c2 (by omega)⟩
  · exact ⟨_, rfl, iteT ⟨by show 1 ≤ sizeLine; decide, no fun z => c (decide_eq_true (by omega))⟩⟩
theorem def_min_deps (D : DefF K mg "min_departures" s_min_deps) (T : Txt K mg C) (D2 : Def P w K mg base 8 "smallest_count" ["ships", "limit"] spSmallest) :
    Def P w K mg base 9 "min_departures" ["instance", "limit"] (spOp C 1 (c1 .minDepartures)) := by
  refine Def.mk' D sc_min_deps (fun _ _ _ _ _ _ us hl => match us, hl with | [_, _], _ => rfl) (fun vs H Q E h => spOp_len h) (fun f cdv A outer s H vs Q E hr h => ?_)
  obtain ⟨a, sl, dl, zs, tt, tt', r, xs, rfl, hl, hT, hG, hst, k⟩ := h
  obtain ⟨x, rfl⟩ := len1 hl
  obtain ⟨dx, hi⟩ := hT.ins
  refine ⟨_, pss_cons (ps_if (pt_cmpR op_eq (pe_callB call_len_seq (by rfl) T.len PySem.boot_len (pa_cons (pe_fld (pv 0) rfl) pa_nil)) pe_int (nomark _)) (pss_one (ps_ret (pe_lst (pa_cons pe_int pa_nil)))) pss_nil)
    (pss_one (ps_ret (pe_lst (pa_cons (pe_callD D2 hr (pa_cons (pe_fld (pv 0) rfl) (pa_cons (pv 1) pa_nil))) pa_nil)))), ?_⟩
  have hstep : Km561.step (some tt) (.minDepartures x) = (some tt', r) := hst
  unfold Km561.step at hstep
  dsimp only at hstep
  cases hstep
  refine ⟨_, rfl, a, C, dx, _, _, rfl, hi, T.cl, T.nS, lkS, sl, _, rfl, .inl (SqL.of hT.sh.lst), rfl, _, rfl, ?_⟩
  rw [List.length_map, hT.slen]
  refine ite2 (fun c => ?_) (fun c => ?_)
  · have c' := of_decide_eq_true c
    have cn : tt.ships.length = 0 := by
      have z : V.int ((tt.ships.length : Nat) : Int) = V.int 0 := c'
      injection z with z
      omega
    rw [if_pos (show Km561.shipCount tt = 0 from cn)] at k
    exact ⟨by show 1 ≤ sizeLine; decide, fun p hp => k.one hT hp⟩
  · have cn : ¬ tt.ships.length = 0 := fun z => c (decide_eq_true (by rw [z]; rfl))
    rw [if_neg (show ¬ Km561.shipCount tt = 0 from cn)] at k
    have h8 := hG.len
    obtain ⟨m, m1, m8, mw, mn⟩ := least_up (p := fun m => Km561.optimalWaiting tt m ≤ x) 8 ⟨tt.ships.length, by omega, h8, by rw [optimal_zero (Nat.le_refl _)]; exact Nat.zero_le _⟩
    have ef : (List.range Km561.maxShips).find? (fun i => decide (Km561.optimalWaiting tt (i + 1) ≤ x)) = some (m - 1) := by
      refine find_first (show m - 1 < 8 by omega) (decide_eq_true (by rw [show m - 1 + 1 = m by omega]; exact mw)) fun j hj => decide_eq_false (mn (j + 1) (by omega) (by omega))
    rw [ef] at k
    refine ⟨_, rfl, a, C, dx, _, _, rfl, hi, T.cl, T.nS, lkS, _, rfl, sl, tt, x, m, rfl, hT.fleet hG, m1, by omega, mw, mn, fun H1 s1 => ?_⟩
    refine ⟨by show 1 ≤ sizeLine; decide, fun p hp => k.same hT (Same.upd s1 hp) ?_ (s1.free hp)⟩
    rw [upd_same]
    show _ = some (HO.lst [V.int ((m - 1 + 1 : Nat) : Int)])
    rw [show m - 1 + 1 = m by omega]
theorem def_cheap (D : DefF K mg "cheapest_count" s_cheap) (T : Txt K mg C) (D2 : Def P w K mg base 8 "cheapest_choice" ["ships", "price", "most"] spCheapest) :
    Def P w K mg base 9 "cheapest_count" ["instance", "price"] (spOp C 1 (c1 .cheapestCount)) := by
  refine Def.mk' D sc_cheap (fun _ _ _ _ _ _ us hl => match us, hl with | [_, _], _ => rfl) (fun vs H Q E h => spOp_len h) (fun f cdv A outer s H vs Q E hr h => ?_)
  obtain ⟨a, sl, dl, zs, tt, tt', r, xs, rfl, hl, hT, hG, hst, k⟩ := h
  obtain ⟨x, rfl⟩ := len1 hl
  obtain ⟨dx, hi⟩ := hT.ins
  refine ⟨_, pss_cons (ps_if (pt_cmpR op_gt (pv 1) (pe_conF T.greatP) (nomark _)) (pss_one (ps_ret (pe_lst (pa_cons (pe_conF T.range_) pa_nil)))) pss_nil)
    (pss_cons (ps_if (pt_cmpR op_eq (pe_callB call_len_seq (by rfl) T.len PySem.boot_len (pa_cons (pe_fld (pv 0) rfl) pa_nil)) pe_int (nomark _)) (pss_one (ps_ret (pe_lst (pa_cons pe_int (pa_cons pe_int pa_nil))))) pss_nil)
    (pss_one (ps_ret (pe_callTy call_list_of (by rfl) T.list (by decide +kernel) (pa_cons (pe_callD D2 hr (pa_cons (pe_fld (pv 0) rfl) (pa_cons (pv 1) (pa_cons (pe_conF T.mostD) pa_nil)))) pa_nil))))), ?_⟩
  have hstep : Km561.step (some tt) (.cheapestCount x) = (some tt', r) := hst
  unfold Km561.step at hstep
  dsimp only at hstep
  cases hstep
  refine ⟨_, rfl, _, _, rfl, rfl, _, rfl, ite2 (fun c => ?_) (fun c => ?_)⟩
  · have c' := of_decide_eq_true c
    rw [if_pos (by omega)] at k
    exact ⟨by show 1 ≤ sizeLine; decide, fun p hp => k.one hT hp⟩
  · have c' : ¬ 999 < x := fun z => c (decide_eq_true (by omega))
    rw [if_neg c'] at k
    refine ⟨_, rfl, a, C, dx, _, _, rfl, hi, T.cl, T.nS, lkS, sl, _, rfl, .inl (SqL.of hT.sh.lst), rfl, _, rfl, ?_⟩
    rw [List.length_map, hT.slen]
    refine ite2 (fun c => ?_) (fun c => ?_)
    · have cn : tt.ships.length = 0 := by
        have z : V.int ((tt.ships.length : Nat) : Int) = V.int 0 := of_decide_eq_true c
        injection z with z
        omega
      rw [cheap_none (show Km561.shipCount tt = 0 from cn)] at k
      exact ⟨by show 2 ≤ sizeLine; decide, fun p hp => k.same hT (same_upd hp) upd_same hp⟩
    · have cn : ¬ tt.ships.length = 0 := fun z => c (decide_eq_true (by rw [z]; rfl))
      rw [cheap_is (show ¬ Km561.shipCount tt = 0 from cn)] at k
      refine ⟨_, rfl, a, C, dx, _, _, rfl, hi, T.cl, T.nS, lkS, _, rfl, sl, tt, x, 7, rfl, hT.fleet hG, by omega, Nat.le_refl 7, fun H1 q s1 hq => ?_⟩
      exact ⟨q, _, rfl, .inr (SqT.of hq), fun p hp => k.same hT (Same.upd s1 hp) upd_same (s1.free hp)⟩
theorem def_next (D : DefF K mg "next_departure" s_next) (T : Txt K mg C) (D2 : Def P w K mg base 1 "first_departure_from" ["departures", "hour"] (spFirst K)) :
    Def P w K mg base 2 "next_departure" ["instance", "hour"] (spOp C 1 (c1 .nextDeparture)) := by
  refine Def.mk' D sc_next (fun _ _ _ _ _ _ us hl => match us, hl with | [_, _], _ => rfl) (fun vs H Q E h => spOp_len h) (fun f cdv A outer s H vs Q E hr h => ?_)
  obtain ⟨a, sl, dl, zs, tt, tt', r, xs, rfl, hl, hT, hG, hst, k⟩ := h
  obtain ⟨x, rfl⟩ := len1 hl
  obtain ⟨dx, hi⟩ := hT.ins
  refine ⟨_, pss_cons (ps_set (i := 2) sc_next.nd rfl (Or.inl rfl) (pe_callD D2 hr (pa_cons (pe_fld (pv 0) rfl) (pa_cons (pv 1) pa_nil))))
    (pss_cons (ps_if (pt_cmp (pc_isN (pv 2))) (pss_one (ps_ret (pe_lst (pa_cons (pe_conF T.notServed) pa_nil)))) pss_nil)
    (pss_one (ps_ret (pe_lst (pa_cons (pv 2) pa_nil))))), ?_⟩
  have hstep : Km561.step (some tt) (.nextDeparture x) = (some tt', r) := hst
  unfold Km561.step at hstep
  dsimp only at hstep
  cases hstep
  rw [next_is _ hG.srt] at k
  refine ⟨_, rfl, a, C, dx, _, _, rfl, hi, T.cl, T.nD, lkD, _, rfl, dl, tt.departures, x, rfl, SqL.of hT.dep, ?_⟩
  cases e : firstFrom tt.departures x with
  | none =>
    rw [e] at k
    exact ⟨_, rfl, _, rfl, iteT ⟨by show 1 ≤ sizeLine; decide, fun p hp => k.one hT hp⟩⟩
  | some d =>
    rw [e] at k
    exact ⟨_, rfl, _, rfl, iteF ⟨_, rfl, by show 1 ≤ sizeLine; decide, fun p hp => k.one hT hp⟩⟩
theorem per_is {tt : Timetable} (h : tt.departures.Pairwise (· < ·)) {zs : List (Addr × Ship)} (e : zs.map (·.2) = tt.ships) : (List.range tt.departures.length).map (fun j => (tt.ships.filter fun ship => Km561.nextDeparture tt.departures ship.arrival == tt.departures[j]?).length) =
    tt.departures.map (takenBy zs tt.departures) := by
  refine List.ext_getElem? fun j => ?_
  rw [List.getElem?_map, List.getElem?_map]
  by_cases c : j < tt.departures.length
  · rw [List.getElem?_range c, List.getElem?_eq_getElem c]
    refine congrArg some ?_
    unfold takenBy
    rw [← e]
    dsimp only
    rw [← List.countP_eq_length_filter, List.countP_map]
    show _ = List.countP (fun x => x == some tt.departures[j]) (zs.map fun z => firstFrom tt.departures z.2.arrival)
    rw [List.countP_map, List.getElem?_eq_getElem c]
    refine List.countP_congr fun z _ => ?_
    show (Km561.nextDeparture tt.departures z.2.arrival == some tt.departures[j]) = true ↔ (firstFrom tt.departures z.2.arrival == some tt.departures[j]) = true
    rw [next_is _ h]
  · rw [List.getElem?_eq_none (by rw [List.length_range]; omega), List.getElem?_eq_none (by omega)]
    rfl
theorem def_per (D : DefF K mg "ships_per_departure" s_per) (T : Txt K mg C) (D2 : Def P w K mg base 2 "ships_with_each" ["ships", "departures"] spEach) :
    Def P w K mg base 3 "ships_per_departure" ["instance"] (spOp C 0 (c0 .shipsPerDeparture)) := by
  refine Def.mk' D sc_per (fun _ _ _ _ _ _ us hl => match us, hl with | [_], _ => rfl) (fun vs H Q E h => spOp_len h) (fun f cdv A outer s H vs Q E hr h => ?_)
  obtain ⟨a, sl, dl, zs, tt, tt', r, xs, rfl, hl, hT, hG, hst, k⟩ := h
  obtain rfl := len0 hl
  obtain ⟨dx, hi⟩ := hT.ins
  refine ⟨_, pss_one (ps_ret (pe_op op_cat (pe_lst (pa_cons (pe_callB call_len_seq (by rfl) T.len PySem.boot_len (pa_cons (pe_fld (pv 0) rfl) pa_nil)) pa_nil)) (pe_callD D2 hr (pa_cons (pe_fld (pv 0) rfl) (pa_cons (pe_fld (pv 0) rfl) pa_nil))))), ?_⟩
  have hstep : Km561.step (some tt) .shipsPerDeparture = (some tt', r) := hst
  unfold Km561.step at hstep
  dsimp only at hstep
  cases hstep
  have h8 := hG.sl hT.zs_
  have hd8 := hG.dlen
  refine ⟨_, rfl, a, C, dx, _, _, rfl, hi, T.cl, T.nD, lkD, dl, _, rfl, .inl (SqL.of hT.dep), by show 1 ≤ sizeLine; decide, fun l1 hl1 => ?_⟩
  have s1 : Same H (upd H l1 (.lst [.int (((tt.departures.map nV).length : Nat) : Int)])) := same_upd hl1
  have h1 : upd H l1 (.lst [.int (((tt.departures.map nV).length : Nat) : Int)]) l1 = some (.lst [.int (((tt.departures.map nV).length : Nat) : Int)]) := upd_same
  generalize upd H l1 (.lst [.int (((tt.departures.map nV).length : Nat) : Int)]) = H1 at s1 h1 ⊢
  refine ⟨_, rfl, a, C, dx, _, _, rfl, s1 _ _ hi, T.cl, T.nS, lkS, _, rfl, a, C, dx, _, _, rfl, s1 _ _ hi, T.cl, T.nD, lkD, sl, dl, zs, tt.departures, rfl, hT.sh.same s1, s1 _ _ hT.dep, by omega, by omega, fun H2 l2 s2 hl2 _ => ?_⟩
  refine ⟨l1, l2, _, _, rfl, rfl, s2 _ _ h1, hl2, ?_, fun p hp => ?_⟩
  · rw [List.length_map]
    have z : (tt.departures.map fun d => nV (takenBy zs tt.departures d)).length ≤ 8 := by
      rw [List.length_map]
      exact hd8
    exact Nat.le_of_lt (nine (Nat.le_trans (Nat.add_le_add_left z 1) (by decide)))
  · have s12 := s1.trans s2
    refine k.same hT (Same.upd s12 hp) ?_ (s12.free hp)
    rw [upd_same]
    unfold Km561.listResult
    rw [per_is hG.srt hT.zs_, List.map_cons, toInts_nV, List.map_map, List.length_map, List.length_map]
    rfl
end
end Ct
set_option Elab.async false
set_option maxRecDepth 100000
set_option maxHeartbeats 4000000
namespace Ct
open PySem PySem.Spec PyProof.Rows L2
open Km561 (Ship Timetable)
abbrev s_with : Stmt := top 52
abbrev s_with_ship : Stmt := top 55
abbrev s_without : Stmt := top 56
abbrev s_summary : Stmt := top 57
theorem sc_with : FnScope ["instance", "hour", "total"] ["instance", "hour"] (defScope s_with) := ⟨rfl, rfl, rfl, by decide +kernel, rfl, by decide +kernel, by decide +kernel⟩
theorem sc_with_ship : FnScope ["instance", "arrival", "weight", "refusal", "ships"] ["instance", "arrival", "weight"] (defScope s_with_ship) := ⟨rfl, rfl, rfl, by decide +kernel, rfl, by decide +kernel, by decide +kernel⟩
theorem sc_without : FnScope ["instance", "ship", "ships"] ["instance", "ship"] (defScope s_without) := ⟨rfl, rfl, rfl, by decide +kernel, rfl, by decide +kernel, by decide +kernel⟩
theorem sc_summary : FnScope ["instance"] ["instance"] (defScope s_summary) := ⟨rfl, rfl, rfl, by decide +kernel, rfl, by decide +kernel, by decide +kernel⟩
/-- the departures with one hour more, in order: as naturals again -/
theorem sorted_nats {ns : List Int} {ds : List Nat} (p : ns.Perm (ds.map fun d : Nat => (d : Int))) (q : ns.Pairwise (· ≤ ·)) : ∃ es : List Nat, ns = es.map (fun d : Nat => (d : Int)) ∧ es.Pairwise (· ≤ ·) ∧ ∀ x, x ∈ es ↔ x ∈ ds := by
  have h0 : ∀ n ∈ ns, ∃ d ∈ ds, n = (d : Int) := fun n hn => by
    obtain ⟨d, hd, e⟩ := List.mem_map.mp (p.mem_iff.mp hn)
    exact ⟨d, hd, e.symm⟩
  have e : ns = (ns.map Int.toNat).map fun d : Nat => (d : Int) := by
    rw [List.map_map]
    refine (List.map_id' ns).symm.trans (List.map_congr_left fun n hn => ?_)
    obtain ⟨d, _, rfl⟩ := h0 n hn
    show (d : Int) = (((d : Int).toNat : Nat) : Int)
    omega
  refine ⟨ns.map Int.toNat, e, List.pairwise_map.mpr (q.imp fun {a b} h => by omega), fun x => ?_⟩
  rw [List.mem_map]
  constructor
  · rintro ⟨n, hn, rfl⟩
    obtain ⟨d, hd, rfl⟩ := h0 n hn
    rw [Int.toNat_natCast]
    exact hd
  · intro hx
    exact ⟨(x : Int), p.mem_iff.mpr (List.mem_map_of_mem hx), Int.toNat_natCast x⟩
theorem with_is {tt : Timetable} (G : Good tt) {x : Nat} {es : List Nat} (h : es.Pairwise (· ≤ ·)) (m : ∀ y, y ∈ es ↔ y ∈ tt.departures ++ [x]) :
    weighted tt.ships es = if Km561.allServed tt (Km561.insertHour x tt.departures) = false then none else some (Km561.totalWaiting tt (Km561.insertHour x tt.departures)) := by
  have hs := sorted_insertHour (x := x) G.srt
  rw [← weighted_spec hs]
  refine weighted_members h (lt_le hs) fun y => ?_
  rw [m, mem_insertHour, List.mem_append, List.mem_singleton, or_comm]
theorem cut_to (l : List V) (n : Nat) : cutV l none (some (n : Int)) = l.take n := by
  unfold cutV
  rw [HT.sIx_none, HT.sIx_nat, List.drop_zero, Nat.sub_zero]
  rcases Nat.le_total n l.length with h | h
  · rw [Nat.min_eq_left h]
  · rw [Nat.min_eq_right h, List.take_of_length_le (Nat.le_refl _), List.take_of_length_le h]
theorem cut_from (l : List V) (n : Nat) : cutV l (some ((n : Int) + 1)) none = l.drop (n + 1) := by
  have e1 : ((n : Int) + 1) = ((n + 1 : Nat) : Int) := by omega
  unfold cutV
  rw [HT.sIx_none, e1, HT.sIx_nat]
  rcases Nat.le_total (n + 1) l.length with h | h
  · rw [Nat.min_eq_left h]
    exact List.take_of_length_le (by rw [List.length_drop]; exact Nat.le_refl _)
  · rw [Nat.min_eq_right h, List.drop_of_length_le (Nat.le_refl _), List.drop_of_length_le h]
    exact List.take_nil
section
variable {P : Program} {w : World} {K : PySem.W.Frag} {mg : Str → Option Value} {base : Heap} {C : Addr}
theorem def_with (D : DefF K mg "total_waiting_with" s_with) (T : Txt K mg C) (D1 : Def P w K mg base 1 "is_hour" ["number"] spIsHour) (D2 : Def P w K mg base 3 "weighted_waiting" ["ships", "departures"] (spWeighted K)) :
    Def P w K mg base 4 "total_waiting_with" ["instance", "hour"] (spOp C 1 (c1 .totalWaitingWith)) := by
  refine Def.mk' D sc_with (fun _ _ _ _ _ _ us hl => match us, hl with | [_, _], _ => rfl) (fun vs H Q E h => spOp_len h) (fun f cdv A outer s H vs Q E hr h => ?_)
  obtain ⟨a, sl, dl, zs, tt, tt', r, xs, rfl, hl, hT, hG, hst, k⟩ := h
  obtain ⟨x, rfl⟩ := len1 hl
  obtain ⟨dx, hi⟩ := hT.ins
  refine ⟨_, pss_cons (ps_if (pt_not (pt_val (pe_callD D1 (hr.mono (by decide)) (pa_cons (pv 1) pa_nil)))) (pss_one (ps_ret (pe_lst (pa_cons (pe_conF T.range_) pa_nil)))) pss_nil)
    (pss_cons (ps_set (i := 2) sc_with.nd rfl (Or.inl rfl) (pe_callD D2 hr (pa_cons (pe_fld (pv 0) rfl) (pa_cons (pe_callB cr_sortedI (by rfl) T.sorted (by decide +kernel) (pa_cons (pe_op op_cat (pe_fld (pv 0) rfl) (pe_lst (pa_cons (pv 1) pa_nil))) pa_nil)) pa_nil))))
    (pss_cons (ps_if (pt_cmp (pc_isN (pv 2))) (pss_one (ps_ret (pe_lst (pa_cons (pe_conF T.notServed) pa_nil)))) pss_nil)
    (pss_one (ps_ret (pe_lst (pa_cons (pv 2) pa_nil)))))), ?_⟩
  have hstep : Km561.step (some tt) (.totalWaitingWith x) = (some tt', r) := hst
  unfold Km561.step at hstep
  dsimp only at hstep
  cases hstep
  refine ⟨_, rfl, x, rfl, _, rfl, ?_⟩
  by_cases cx : x ≤ 48
  · rw [decide_eq_true cx]
    refine iteF ?_
    rw [if_neg (show ¬ Km561.lastHour < x by show ¬ 48 < x; omega)] at k
    have hd8 := hG.dlen
    refine ⟨_, rfl, a, C, dx, _, _, rfl, hi, T.cl, T.nS, lkS, _, rfl, a, C, dx, _, _, rfl, hi, T.cl, T.nD, lkD, _, rfl, by show 1 ≤ sizeLine; decide, fun q1 hq1 => ?_⟩
    have s1 : Same H (upd H q1 (.lst [nV x])) := same_upd hq1
    refine ⟨dl, q1, _, _, rfl, rfl, s1 _ _ hT.dep, upd_same, ?_, fun q2 hq2 => ?_⟩
    · rw [List.length_map]
      exact Nat.le_trans (show tt.departures.length + 1 ≤ 9 by omega) (by show 9 ≤ sizeLine; decide)
    have s2 := Same.upd (o := .lst (tt.departures.map nV ++ [nV x])) s1 hq2
    have el : tt.departures.map nV ++ [nV x] = ((tt.departures ++ [x]).map fun d : Nat => (d : Int)).map V.int := by
      rw [← nV_int, List.map_append]
      rfl
    refine ⟨q2, _, rfl, SqL.of (by rw [← el]; exact upd_same), fun ns q3 hp hq hq3 => ?_⟩
    obtain ⟨es, rfl, he, hm⟩ := sorted_nats hp hq
    rw [← nV_int]
    have s3 := Same.upd (o := .lst (es.map nV)) s2 hq3
    refine ⟨sl, q3, zs, es, rfl, hT.sh.same s3, SqL.of upd_same, hT.wgt9 hG, ?_⟩
    rw [hT.zs_, with_is hG he hm]
    cases e : Km561.allServed tt (Km561.insertHour x tt.departures) with
    | false =>
      rw [e] at k
      rw [if_pos rfl]
      rw [if_pos rfl] at k
      exact ⟨_, rfl, _, rfl, iteT ⟨by show 1 ≤ sizeLine; decide, fun p hp => k.same hT (Same.upd s3 hp) upd_same (s3.free hp)⟩⟩
    | true =>
      rw [e] at k
      rw [if_neg (by decide)]
      rw [if_neg (by decide)] at k
      exact ⟨_, rfl, _, rfl, iteF ⟨_, rfl, by show 1 ≤ sizeLine; decide, fun p hp => k.same hT (Same.upd s3 hp) upd_same (s3.free hp)⟩⟩
  · rw [decide_eq_false cx]
    rw [if_pos (show Km561.lastHour < x by show 48 < x; omega)] at k
    exact iteT ⟨by show 1 ≤ sizeLine; decide, fun p hp => k.one hT hp⟩
theorem def_with_ship (D : DefF K mg "optimal_waiting_with_ship" s_with_ship) (T : Txt K mg C) (D1 : Def P w K mg base 2 "refusal_of_ship" ["instance", "arrival", "weight"] (spRefusal C)) (D2 : Def P w K mg base 7 "optimal_waiting" ["ships", "count"] spOptW) (D3 : Def P w K mg base 1 "counted_departures" ["instance"] (spCounted C)) :
    Def P w K mg base 8 "optimal_waiting_with_ship" ["instance", "arrival", "weight"] (spOp C 2 (c2 .optimalWaitingWithShip)) := by
  refine Def.mk' D sc_with_ship (fun _ _ _ _ _ _ us hl => match us, hl with | [_, _, _], _ => rfl) (fun vs H Q E h => spOp_len h) (fun f cdv A outer s H vs Q E hr h => ?_)
  obtain ⟨a, sl, dl, zs, tt, tt', r, xs, rfl, hl, hT, hG, hst, k⟩ := h
  obtain ⟨x, y, rfl⟩ := len2 hl
  obtain ⟨dx, hi⟩ := hT.ins
  refine ⟨_, pss_cons (ps_set (i := 3) sc_with_ship.nd rfl (Or.inl rfl) (pe_callD D1 (hr.mono (by decide)) (pa_cons (pv 0) (pa_cons (pv 1) (pa_cons (pv 2) pa_nil)))))
    (pss_cons (ps_if (pt_cmp (pc_notN (pv 3))) (pss_one (ps_ret (pe_lst (pa_cons (pv 3) pa_nil)))) pss_nil)
    (pss_cons (ps_set (i := 4) sc_with_ship.nd rfl (Or.inl rfl) (pe_op op_cat (pe_fld (pv 0) rfl) (pe_lst (pa_cons (pe_tup (pa_cons (pv 1) (pa_cons (pv 2) pa_nil))) pa_nil))))
    (pss_one (ps_ret (pe_lst (pa_cons (pe_callD D2 hr (pa_cons (pv 4) (pa_cons (pe_callD D3 (hr.mono (by decide)) (pa_cons (pv 0) pa_nil)) pa_nil))) pa_nil)))))), ?_⟩
  have hstep : Km561.step (some tt) (.optimalWaitingWithShip x y) = (some tt', r) := hst
  unfold Km561.step at hstep
  dsimp only at hstep
  cases hstep
  refine ⟨_, rfl, _, rfl, _, rfl, a, sl, dl, zs, tt, x, y, rfl, hT, ?_⟩
  unfold refV
  by_cases cv : Km561.isValidShip x y = false
  · rw [if_pos cv]
    rw [if_pos cv] at k
    exact ⟨_, rfl, _, rfl, iteT ⟨_, rfl, by show 1 ≤ sizeLine; decide, fun p hp => k.one hT hp⟩⟩
  · rw [if_neg cv]
    rw [if_neg cv] at k
    by_cases cm : Km561.maxShips ≤ Km561.shipCount tt
    · rw [if_pos cm]
      rw [if_pos cm] at k
      exact ⟨_, rfl, _, rfl, iteT ⟨_, rfl, by show 1 ≤ sizeLine; decide, fun p hp => k.one hT hp⟩⟩
    · rw [if_neg cm]
      rw [if_neg cm] at k
      have hv : x ≤ 48 ∧ 1 ≤ y ∧ y ≤ 9 := by
        rw [Bool.not_eq_false] at cv
        exact of_decide_eq_true cv
      have c' : tt.ships.length < 8 := Nat.lt_of_not_le cm
      have h8 : zs.length < 8 := by rw [hT.slen]; exact c'
      have hd8 := hG.dlen
      refine ⟨_, rfl, _, rfl, iteF ?_⟩
      refine ⟨_, rfl, a, C, dx, _, _, rfl, hi, T.cl, T.nS, lkS, _, rfl, _, rfl, by show 2 ≤ sizeLine; decide, fun t ht => ⟨by show 1 ≤ sizeLine; decide, fun l1 hl1 => ?_⟩⟩
      have s1 : Same H (upd H t (.tup [nV x, nV y])) := same_upd ht
      have h1 : upd H t (.tup [nV x, nV y]) t = some (.tup [nV x, nV y]) := upd_same
      have s2 := Same.upd (o := .lst [.ref t]) (Same.refl (upd H t (.tup [nV x, nV y]))) hl1
      have s12 := s1.trans s2
      refine ⟨sl, l1, _, _, rfl, rfl, s12 _ _ hT.sh.lst, upd_same, ?_, fun l2 hl2 => ?_⟩
      · rw [List.length_map]
        exact Nat.le_of_lt (nine (show zs.length + 1 ≤ 9 by omega))
      have s3 := Same.upd (o := .lst (zs.map (fun z => V.ref z.1) ++ [.ref t])) s2 hl2
      have s13 := s1.trans s3
      have ht3 := s3 _ _ h1
      have F : Fleet (upd (upd (upd H t (.tup [nV x, nV y])) l1 (.lst [.ref t])) l2 (.lst (zs.map (fun z => V.ref z.1) ++ [.ref t]))) l2 { tt with ships := tt.ships ++ [⟨x, y⟩] } := by
        refine ⟨zs ++ [(t, ⟨x, y⟩)], ⟨?_, fun z hz => ?_⟩, ?_, by rw [List.length_append, List.length_singleton]; omega, fun z hz => ?_⟩
        · rw [upd_same, List.map_append]
          rfl
        · rcases List.mem_append.mp hz with hz | hz
          · exact s13 _ _ (hT.sh.at_ z hz)
          · rw [List.mem_singleton.mp hz]
            exact ht3
        · rw [List.map_append, hT.zs_]
          rfl
        · rcases List.mem_append.mp hz with hz | hz
          · exact hT.wgt9 hG z hz
          · rw [List.mem_singleton.mp hz]
            exact hv.2.2
      refine ⟨_, rfl, _, rfl, a, sl, dl, zs, tt, rfl, hT.same s13, l2, _, _, rfl, F, Nat.le_max_left _ _, Nat.max_le.mpr ⟨by decide, by omega⟩, fun H4 s4 => ?_⟩
      have s14 := s13.trans s4
      exact ⟨by show 1 ≤ sizeLine; decide, fun p hp => k.same hT (Same.upd s14 hp) upd_same (s14.free hp)⟩
theorem def_without (D : DefF K mg "optimal_waiting_without_ship" s_without) (T : Txt K mg C) (D1 : Def P w K mg base 1 "has_ship" ["instance", "ship"] (spHasShip C)) (D2 : Def P w K mg base 7 "optimal_waiting" ["ships", "count"] spOptW) (D3 : Def P w K mg base 1 "counted_departures" ["instance"] (spCounted C)) :
    Def P w K mg base 8 "optimal_waiting_without_ship" ["instance", "ship"] (spOp C 1 (c1 .optimalWaitingWithoutShip)) := by
  refine Def.mk' D sc_without (fun _ _ _ _ _ _ us hl => match us, hl with | [_, _], _ => rfl) (fun vs H Q E h => spOp_len h) (fun f cdv A outer s H vs Q E hr h => ?_)
  obtain ⟨a, sl, dl, zs, tt, tt', r, xs, rfl, hl, hT, hG, hst, k⟩ := h
  obtain ⟨x, rfl⟩ := len1 hl
  obtain ⟨dx, hi⟩ := hT.ins
  refine ⟨_, pss_cons (ps_if (pt_not (pt_val (pe_callD D1 (hr.mono (by decide)) (pa_cons (pv 0) (pa_cons (pv 1) pa_nil))))) (pss_one (ps_ret (pe_lst (pa_cons (pe_conF T.noSuch) pa_nil)))) pss_nil)
    (pss_cons (ps_set (i := 2) sc_without.nd rfl (Or.inl rfl) (pe_op op_cat (pe_slice sl_list (pe_fld (pv 0) rfl) po_none (po_some (pv 1))) (pe_slice sl_list (pe_fld (pv 0) rfl) (po_some (pe_op op_add (pv 1) pe_int)) po_none)))
    (pss_one (ps_ret (pe_lst (pa_cons (pe_callD D2 hr (pa_cons (pv 2) (pa_cons (pe_callD D3 (hr.mono (by decide)) (pa_cons (pv 0) pa_nil)) pa_nil))) pa_nil))))), ?_⟩
  have hstep : Km561.step (some tt) (.optimalWaitingWithoutShip x) = (some tt', r) := hst
  unfold Km561.step at hstep
  dsimp only at hstep
  cases hstep
  refine ⟨_, rfl, _, rfl, a, sl, dl, zs, tt, x, rfl, hT, _, rfl, ?_⟩
  by_cases c : x < tt.ships.length
  · rw [decide_eq_true c]
    refine iteF ?_
    rw [if_neg (show ¬ Km561.shipCount tt ≤ x by show ¬ tt.ships.length ≤ x; omega)] at k
    have h8 := hG.sl hT.zs_
    have hd8 := hG.dlen
    refine ⟨_, rfl, a, C, dx, _, _, rfl, hi, T.cl, T.nS, lkS, _, rfl, _, rfl, sl, _, rfl, SqL.of hT.sh.lst, fun l1 hl1 => ?_⟩
    rw [cut_to]
    have s1 : Same H (upd H l1 (.lst ((zs.map fun z => V.ref z.1).take x))) := same_upd hl1
    have h1 : upd H l1 (.lst ((zs.map fun z => V.ref z.1).take x)) l1 = some (.lst ((zs.map fun z => V.ref z.1).take x)) := upd_same
    generalize upd H l1 (.lst ((zs.map fun z => V.ref z.1).take x)) = H1 at s1 h1 ⊢
    refine ⟨_, rfl, a, C, dx, _, _, rfl, s1 _ _ hi, T.cl, T.nS, lkS, _, rfl, _, _, rfl, rfl, _, rfl, sl, _, rfl, SqL.of (s1 _ _ hT.sh.lst), fun l2 hl2 => ?_⟩
    rw [cut_from]
    have s2 : Same H1 (upd H1 l2 (.lst ((zs.map fun z => V.ref z.1).drop (x + 1)))) := same_upd hl2
    have h2 : upd H1 l2 (.lst ((zs.map fun z => V.ref z.1).drop (x + 1))) l2 = some (.lst ((zs.map fun z => V.ref z.1).drop (x + 1))) := upd_same
    generalize upd H1 l2 (.lst ((zs.map fun z => V.ref z.1).drop (x + 1))) = H2 at s2 h2 ⊢
    refine ⟨l1, l2, _, _, rfl, rfl, s2 _ _ h1, h2, ?_, fun l3 hl3 => ?_⟩
    · rw [List.length_take, List.length_drop, List.length_map]
      exact Nat.le_of_lt (nine (by omega))
    rw [← List.eraseIdx_eq_take_drop_succ, eraseIdx_map]
    have s3 : Same H2 (upd H2 l3 (.lst ((zs.eraseIdx x).map fun z => V.ref z.1))) := same_upd hl3
    have h3 : upd H2 l3 (.lst ((zs.eraseIdx x).map fun z => V.ref z.1)) l3 = some (.lst ((zs.eraseIdx x).map fun z => V.ref z.1)) := upd_same
    generalize upd H2 l3 (.lst ((zs.eraseIdx x).map fun z => V.ref z.1)) = H3 at s3 h3 ⊢
    have s13 := (s1.trans s2).trans s3
    have hm : ∀ z ∈ zs.eraseIdx x, z ∈ zs := fun z hz => List.mem_of_mem_eraseIdx hz
    have F : Fleet H3 l3 { tt with ships := tt.ships.eraseIdx x } := by
      refine ⟨zs.eraseIdx x, ⟨h3, fun z hz => s13 _ _ (hT.sh.at_ z (hm z hz))⟩, ?_, ?_, fun z hz => hT.wgt9 hG z (hm z hz)⟩
      · rw [← eraseIdx_map, hT.zs_]
      · have := List.length_eraseIdx_le zs x
        omega
    refine ⟨_, rfl, _, rfl, a, sl, dl, zs, tt, rfl, hT.same s13, l3, _, _, rfl, F, Nat.le_max_left _ _, Nat.max_le.mpr ⟨by decide, by omega⟩, fun H4 s4 => ?_⟩
    have s14 := s13.trans s4
    exact ⟨by show 1 ≤ sizeLine; decide, fun p hp => k.same hT (Same.upd s14 hp) upd_same (s14.free hp)⟩
  · rw [decide_eq_false c]
    rw [if_pos (show Km561.shipCount tt ≤ x by show tt.ships.length ≤ x; omega)] at k
    exact iteT ⟨by show 1 ≤ sizeLine; decide, fun p hp => k.one hT hp⟩
theorem def_summary (D : DefF K mg "summary" s_summary) (T : Txt K mg C) (D1 : Def P w K mg base 1 "arrival_hours" ["ships"] spHours) :
    Def P w K mg base 2 "summary" ["instance"] (spOp C 0 (c0 .summary)) := by
  refine Def.mk' D sc_summary (fun _ _ _ _ _ _ us hl => match us, hl with | [_], _ => rfl) (fun vs H Q E h => spOp_len h) (fun f cdv A outer s H vs Q E hr h => ?_)
  obtain ⟨a, sl, dl, zs, tt, tt', r, xs, rfl, hl, hT, hG, hst, k⟩ := h
  obtain rfl := len0 hl
  obtain ⟨dx, hi⟩ := hT.ins
  refine ⟨_, pss_one (ps_ret (pe_lst (pa_cons (pe_callB call_len_seq (by rfl) T.len PySem.boot_len (pa_cons (pe_fld (pv 0) rfl) pa_nil)) (pa_cons (pe_callB call_len_seq (by rfl) T.len PySem.boot_len (pa_cons (pe_callD D1 hr (pa_cons (pe_fld (pv 0) rfl) pa_nil)) pa_nil))
    (pa_cons (pe_callB call_len_seq (by rfl) T.len PySem.boot_len (pa_cons (pe_fld (pv 0) rfl) pa_nil)) pa_nil))))), ?_⟩
  have hstep : Km561.step (some tt) .summary = (some tt', r) := hst
  unfold Km561.step at hstep
  dsimp only at hstep
  cases hstep
  have h8 := hG.sl hT.zs_
  refine ⟨_, rfl, a, C, dx, _, _, rfl, hi, T.cl, T.nS, lkS, sl, _, rfl, .inl (SqL.of hT.sh.lst), _, rfl, a, C, dx, _, _, rfl, hi, T.cl, T.nS, lkS, sl, zs, tt, rfl, hT.sh, hT.zs_, by omega, fun H1 q s1 hq _ => ?_⟩
  refine ⟨q, _, rfl, .inl (SqL.of hq), _, rfl, a, C, dx, _, _, rfl, s1 _ _ hi, T.cl, T.nD, lkD, dl, _, rfl, .inl (SqL.of (s1 _ _ hT.dep)), by show 3 ≤ sizeLine; decide, fun p hp => k.same hT (Same.upd s1 hp) ?_ (s1.free hp)⟩
  rw [upd_same, List.length_map, List.length_map, List.length_map, hT.slen]
  rfl
end
end Ct
set_option Elab.async false
set_option maxRecDepth 100000
set_option maxHeartbeats 4000000
namespace Ct
open PySem PySem.Spec PyProof.Rows L2
open PySem.W (Codec)
theorem tab_row {K : PySem.W.Frag} {d : Addr} {es : Array DictEntry} {n : Nat} (l : K.lookup d = some ⟨.type "dict", none, .dict es n, #[]⟩) (k : KeysInt es.toList) {i : Int} {f : Addr} (e : findBy Value.isInt es i = some (.ref f)) : KDctI K d i (.ref f) := ⟨es, n, _, l, k, e, rfl⟩
theorem row_mk {K : PySem.W.Frag} {h : Heap} {mg : Str → Option Value} (X : K.In h) (G : h.Ns mainGlobals mg) {x : Str} {f : Addr} {d : Addr} {i : Int} (b : PySem.W.nsIn K mainGlobals x = some (some (.ref f))) (r : KDctI K d i (.ref f)) : ∃ f, mg x = some (.ref f) ∧ KDctI K d i (.ref f) := ⟨f, PySem.W.mg_of X G b, r⟩
/-- the numbers of a written tuple -/
def intsB : List Int → List Value → Bool
  | [], [] => true
  | i :: r, .int j _ :: s => i == j && intsB r s
  | _, _ => false
theorem vals_intsB : ∀ {is : List Int} {vs : List Value}, intsB is vs = true → Vals (is.map V.int) vs
  | [], [], _ => .nil
  | i :: r, .int j t :: s, h => by
    unfold intsB at h
    rw [Bool.and_eq_true] at h
    have e : i = j := eq_of_beq h.1
    subst e
    exact .cons ⟨t, rfl⟩ (vals_intsB h.2)
theorem sqT_mk {K : PySem.W.Frag} {d : Addr} {dd : Option Addr} {its : Array Value} {n : Nat} {sl : Array (Option Value)} {is : List Int} (l : K.lookup d = some ⟨.type "tuple", dd, .seq its n, sl⟩) (s : its.size ≤ sizeLine) (v : intsB is its.toList = true) (H : Hp) : SqT K H d (is.map V.int) :=
  .inr ⟨_, its, n, l, rfl, rfl, s, vals_intsB v⟩
theorem all_mk {P : Program} {w : World} {K : PySem.W.Frag} {h : Heap} {mg : Str → Option Value} {fa C f1 : Addr} (X : K.In h) (G : h.Ns mainGlobals mg) (hfa : mg "answers" = some (.ref fa))
    (aC : PySem.W.nsIn K mainGlobals "Instance" = some (some (.ref C)))
    {od1 an1 : Option Addr} {sl1 : Array (Option Value)} {oc1 kV1 dc1 pm1 cd1 ct1 : Value}
    (a1 : PySem.W.findIn K (.ref C) "__init__" = some (some (.ref f1))) (i1 : PySem.W.isFn K (.ref f1) = true) (l1 : K.lookup f1 = some ⟨oc1, od1, .func (PySem.W.fnOf "__init__" "Instance.__init__" (defArgs s_init) (defBody s_init) (defScope s_init) .none kV1 dc1 pm1 an1 cd1 ct1), sl1⟩) (q1 : PySem.W.codeIn K cd1 "Instance.__init__" = true) (k1 : PySem.W.keepIn K (.ref f1) = true)
    (pg : PySem.W.plainGet K C Str.empty = true) (hd : PySem.W.hasDictIn K C = true) (po : PySem.W.plainOver K C = true) (sa : PySem.W.findIn K (.ref C) "__setattr__" = some (some (.builtin "object.__setattr__"))) (mk : PySem.W.makesIn K C = true) (kc : PySem.W.keepIn K (.ref C) = true)
    (nS : PySem.W.findIn K (.ref C) "ships" = some none) (nD : PySem.W.findIn K (.ref C) "departures" = some none)
    (b0 : PySem.W.nsIn K mainGlobals "len" = some none)
    (b1 : PySem.W.nsIn K mainGlobals "range" = some none)
    (b2 : PySem.W.nsIn K mainGlobals "sorted" = some none)
    (b3 : PySem.W.nsIn K mainGlobals "list" = some none)
    (b4 : PySem.W.nsIn K mainGlobals "set" = some none)
    (b5 : PySem.W.nsIn K mainGlobals "min" = some none)
    (b6 : PySem.W.nsIn K mainGlobals "max" = some none)
    (k0_ : ConF mg "NO_SUCH" (-2))
    (k1_ : ConF mg "NO_INSTANCE" (-11))
    (k2_ : ConF mg "ALREADY_THERE" (-17))
    (k3_ : ConF mg "OUT_OF_RANGE" (-22))
    (k4_ : ConF mg "FULL" (-28))
    (k5_ : ConF mg "NOT_SERVED" (-33))
    (k6_ : ConF mg "LAST_HOUR" 48)
    (k7_ : ConF mg "LEAST_WEIGHT" 1)
    (k8_ : ConF mg "GREATEST_WEIGHT" 9)
    (k9_ : ConF mg "MOST_SHIPS" 8)
    (k10_ : ConF mg "MOST_DEPARTURES" 8)
    (k11_ : ConF mg "GREATEST_PRICE" 999)
    (k12_ : ConF mg "CREATE" 0)
    (d0 : DefF K mg "first_departure_from" s_first)
    (d1 : DefF K mg "waiting_from" s_wfrom)
    (d2 : DefF K mg "weighted_waiting" s_weighted)
    (d3 : DefF K mg "longest_waiting_ship" s_longest)
    (d4 : DefF K mg "ships_with_each" s_each)
    (d5 : DefF K mg "arrival_hours" s_hours)
    (d6 : DefF K mg "waiting_for" s_wait_for)
    (d7 : DefF K mg "with_one_departure" s_one)
    (d8 : DefF K mg "with_another_departure" s_another)
    (d9 : DefF K mg "optimal_timetable" s_opt_t)
    (d10 : DefF K mg "optimal_waiting" s_opt_w)
    (d11 : DefF K mg "smallest_count" s_smallest)
    (d12 : DefF K mg "cheapest_choice" s_cheapest)
    (d13 : DefF K mg "is_hour" s_is_hour)
    (d14 : DefF K mg "is_weight" s_is_weight)
    (d15 : DefF K mg "is_departure_count" s_is_count)
    (d16 : DefF K mg "has_ship" s_has_ship)
    (d17 : DefF K mg "counted_departures" s_counted)
    (d18 : DefF K mg "refusal_of_ship" s_refusal)
    (d19 : DefF K mg "add_ship" s_add_ship)
    (d20 : DefF K mg "remove_ship" s_remove_ship)
    (d21 : DefF K mg "set_arrival" s_set_arrival)
    (d22 : DefF K mg "set_weight" s_set_weight)
    (d23 : DefF K mg "list_ships" s_list_ships)
    (d24 : DefF K mg "add_departure" s_add_departure)
    (d25 : DefF K mg "cancel_departure" s_cancel_departure)
    (d26 : DefF K mg "list_departures" s_list_departures)
    (d27 : DefF K mg "all_served" s_all_served)
    (d28 : DefF K mg "total_waiting" s_total_waiting)
    (d29 : DefF K mg "waiting_time" s_waiting_time)
    (d30 : DefF K mg "longest_waiting" s_longest_waiting)
    (d31 : DefF K mg "optimal_departures" s_opt_deps)
    (d32 : DefF K mg "use_optimal_departures" s_use_opt)
    (d33 : DefF K mg "excess_waiting" s_excess)
    (d34 : DefF K mg "saving_of_departure" s_saving)
    (d35 : DefF K mg "min_departures" s_min_deps)
    (d36 : DefF K mg "cheapest_count" s_cheap)
    (d37 : DefF K mg "total_waiting_with" s_with)
    (d38 : DefF K mg "next_departure" s_next)
    (d39 : DefF K mg "ships_per_departure" s_per)
    (d40 : DefF K mg "optimal_waiting_with_ship" s_with_ship)
    (d41 : DefF K mg "optimal_waiting_without_ship" s_without)
    (d42 : DefF K mg "summary" s_summary)
    (d43 : DefF K mg "perform" s_perform)
    (d44 : DefF K mg "answers" s_answers)
    (t0 : ∃ d, mg "WITH_NO_PARAMETER" = some (.ref d) ∧ (∃ f, mg "list_ships" = some (.ref f) ∧ KDctI K d 5 (.ref f)) ∧ (∃ f, mg "list_departures" = some (.ref f) ∧ KDctI K d 8 (.ref f)) ∧ (∃ f, mg "all_served" = some (.ref f) ∧ KDctI K d 9 (.ref f)) ∧ (∃ f, mg "total_waiting" = some (.ref f) ∧ KDctI K d 10 (.ref f)) ∧ (∃ f, mg "longest_waiting" = some (.ref f) ∧ KDctI K d 12 (.ref f)) ∧ (∃ f, mg "excess_waiting" = some (.ref f) ∧ KDctI K d 15 (.ref f)) ∧ (∃ f, mg "ships_per_departure" = some (.ref f) ∧ KDctI K d 21 (.ref f)) ∧ (∃ f, mg "summary" = some (.ref f) ∧ KDctI K d 24 (.ref f)))
    (t1 : ∃ d, mg "WITH_ONE_PARAMETER" = some (.ref d) ∧ (∃ f, mg "remove_ship" = some (.ref f) ∧ KDctI K d 2 (.ref f)) ∧ (∃ f, mg "add_departure" = some (.ref f) ∧ KDctI K d 6 (.ref f)) ∧ (∃ f, mg "cancel_departure" = some (.ref f) ∧ KDctI K d 7 (.ref f)) ∧ (∃ f, mg "waiting_time" = some (.ref f) ∧ KDctI K d 11 (.ref f)) ∧ (∃ f, mg "optimal_departures" = some (.ref f) ∧ KDctI K d 13 (.ref f)) ∧ (∃ f, mg "use_optimal_departures" = some (.ref f) ∧ KDctI K d 14 (.ref f)) ∧ (∃ f, mg "saving_of_departure" = some (.ref f) ∧ KDctI K d 16 (.ref f)) ∧ (∃ f, mg "min_departures" = some (.ref f) ∧ KDctI K d 17 (.ref f)) ∧ (∃ f, mg "cheapest_count" = some (.ref f) ∧ KDctI K d 18 (.ref f)) ∧ (∃ f, mg "total_waiting_with" = some (.ref f) ∧ KDctI K d 19 (.ref f)) ∧ (∃ f, mg "next_departure" = some (.ref f) ∧ KDctI K d 20 (.ref f)) ∧ (∃ f, mg "optimal_waiting_without_ship" = some (.ref f) ∧ KDctI K d 23 (.ref f)))
    (t2 : ∃ d, mg "WITH_TWO_PARAMETERS" = some (.ref d) ∧ (∃ f, mg "add_ship" = some (.ref f) ∧ KDctI K d 1 (.ref f)) ∧ (∃ f, mg "set_arrival" = some (.ref f) ∧ KDctI K d 3 (.ref f)) ∧ (∃ f, mg "set_weight" = some (.ref f) ∧ KDctI K d 4 (.ref f)) ∧ (∃ f, mg "optimal_waiting_with_ship" = some (.ref f) ∧ KDctI K d 22 (.ref f)))
    (tp : ∃ d, mg "PARAMETER_COUNTS" = some (.ref d) ∧ ∀ H, SqT K H d (PC.map V.int)) :
    ∃ fd : FuncData, (∀ (s : Shared) (us : List Value), us.length = (["calls"] : List Str).length → BindsTo s fd ⟨us, []⟩ ((["calls"] : List Str).zip us)) ∧ ∀ base : Heap, K.In base → base.Ns mainGlobals mg → FnOk P w K mg base CX0 11 fa fd ["calls"] (spAns K) := by
  have T : Txt K mg C := ⟨⟨pg, hd, po, sa⟩, nS, nD, PySem.W.mg_none_of X G b0, PySem.W.mg_none_of X G b1, PySem.W.mg_none_of X G b2, PySem.W.mg_none_of X G b3, PySem.W.mg_none_of X G b4, PySem.W.mg_none_of X G b5, PySem.W.mg_none_of X G b6, k0_, k1_, k2_, k3_, k4_, k5_, k6_, k7_, k8_, k9_, k10_, k11_, k12_⟩
  have F1 := fun_mk (st := s_init) l1 q1 k1
  have z1 := F1.binds (ps := ["self"]) fun _ _ _ _ _ _ us hl => match us, hl with | [_], _ => rfl
  obtain ⟨f, fd, hm, F⟩ := d44
  have hff : f = fa := by
    rw [hm] at hfa
    cases hfa
    rfl
  subst hff
  have main : ∀ base : Heap, FnOk P w K mg base CX0 11 f fd ["calls"] (spAns K) := fun base => by
    have M : Maker P w K mg base C := ⟨f1, _, ⟨mk, a1, i1, kc⟩, ok_init F1 T, z1, PySem.W.mg_of X G aC⟩
    have e7 : Def P w K mg base 1 "first_departure_from" ["departures", "hour"] (spFirst K) := def_first d0
    have e8 : Def P w K mg base 2 "waiting_from" ["departures", "arrival"] (spWfrom K) := def_wfrom d1 e7
    have e9 : Def P w K mg base 3 "weighted_waiting" ["ships", "departures"] (spWeighted K) := def_weighted d2 e8
    have e10 : Def P w K mg base 3 "longest_waiting_ship" ["ships", "departures"] (spLongest K) := def_longest d3 e8 T.len T.range
    have e17 : Def P w K mg base 1 "is_hour" ["number"] spIsHour := def_is_hour d13 T
    have e18 : Def P w K mg base 1 "is_weight" ["number"] spIsWeight := def_is_weight d14 T
    have e19 : Def P w K mg base 1 "has_ship" ["instance", "ship"] (spHasShip C) := def_has_ship d16 T
    have eR : Def P w K mg base 2 "refusal_of_ship" ["instance", "arrival", "weight"] (spRefusal C) := def_refusal d18 T e17 e18
    have eN : Def P w K mg base 1 "is_departure_count" ["number"] spIsCount := def_is_count d15 T
    have eC : Def P w K mg base 1 "counted_departures" ["instance"] (spCounted C) := def_counted d17 T
    have eE : Def P w K mg base 2 "ships_with_each" ["ships", "departures"] spEach := def_each d4 T e7
    have eH : Def P w K mg base 1 "arrival_hours" ["ships"] spHours := def_hours d5 T
    have eF : Def P w K mg base 4 "waiting_for" ["ships", "first_hour", "departure"] spWaitFor := def_wait_for d6 T e9
    have eT : Def P w K mg base 6 "optimal_timetable" ["ships", "count"] spOptT := def_opt_t d9 T eH (def_one d7 eF) (def_another d8 T eF)
    have eW : Def P w K mg base 7 "optimal_waiting" ["ships", "count"] spOptW := def_opt_w d10 eT
    have R0 : ∃ d, mg "WITH_NO_PARAMETER" = some (.ref d) ∧ ∀ p c, K0 p c → Row P w K mg base C d 0 p (Ct.c0 c) := by
      obtain ⟨d, hm, r5, r8, r9, r10, r12, r15, r21, r24⟩ := t0
      refine ⟨d, hm, fun p c k => ?_⟩
      cases k with
      | a5 => exact row_of r5 ⟨_, _, by decide, def_list_ships d23 T⟩
      | a8 => exact row_of r8 ⟨_, _, by decide, def_list_departures d26 T⟩
      | a9 => exact row_of r9 ⟨_, _, by decide, def_all_served d27 T e9⟩
      | a10 => exact row_of r10 ⟨_, _, by decide, def_total_waiting d28 T e9⟩
      | a12 => exact row_of r12 ⟨_, _, by decide, def_longest_waiting d30 T e10⟩
      | a15 => exact row_of r15 ⟨_, _, by decide, def_excess d33 T e9 eW eC⟩
      | a21 => exact row_of r21 ⟨_, _, by decide, def_per d39 T eE⟩
      | a24 => exact row_of r24 ⟨_, _, by decide, def_summary d42 T eH⟩
    have R1 : ∃ d, mg "WITH_ONE_PARAMETER" = some (.ref d) ∧ ∀ p c, K1 p c → Row P w K mg base C d 1 p (Ct.c1 c) := by
      obtain ⟨d, hm, r2, r6, r7, r11, r13, r14, r16, r17, r18, r19, r20, r23⟩ := t1
      refine ⟨d, hm, fun p c k => ?_⟩
      cases k with
      | a2 => exact row_of r2 ⟨_, _, by decide, def_remove_ship d20 T e19⟩
      | a6 => exact row_of r6 ⟨_, _, by decide, def_add_departure d24 T e17⟩
      | a7 => exact row_of r7 ⟨_, _, by decide, def_cancel_departure d25 T⟩
      | a11 => exact row_of r11 ⟨_, _, by decide, def_waiting_time d29 T e19 e7⟩
      | a13 => exact row_of r13 ⟨_, _, by decide, def_opt_deps d31 T eN eT⟩
      | a14 => exact row_of r14 ⟨_, _, by decide, def_use_opt d32 T eN eT⟩
      | a16 => exact row_of r16 ⟨_, _, by decide, def_saving d34 T eW⟩
      | a17 => exact row_of r17 ⟨_, _, by decide, def_min_deps d35 T (def_smallest d11 eW)⟩
      | a18 => exact row_of r18 ⟨_, _, by decide, def_cheap d36 T (def_cheapest d12 T eW)⟩
      | a19 => exact row_of r19 ⟨_, _, by decide, def_with d37 T e17 e9⟩
      | a20 => exact row_of r20 ⟨_, _, by decide, def_next d38 T e7⟩
      | a23 => exact row_of r23 ⟨_, _, by decide, def_without d41 T e19 eW eC⟩
    have R2 : ∃ d, mg "WITH_TWO_PARAMETERS" = some (.ref d) ∧ ∀ p c, K2 p c → Row P w K mg base C d 2 p (Ct.c2 c) := by
      obtain ⟨d, hm, r1, r3, r4, r22⟩ := t2
      refine ⟨d, hm, fun p c k => ?_⟩
      cases k with
      | a1 => exact row_of r1 ⟨_, _, by decide, def_add_ship d19 T eR⟩
      | a3 => exact row_of r3 ⟨_, _, by decide, def_set_arrival d21 T e19 e17⟩
      | a4 => exact row_of r4 ⟨_, _, by decide, def_set_weight d22 T e19 e18⟩
      | a22 => exact row_of r22 ⟨_, _, by decide, def_with_ship d40 T eR eW eC⟩
    exact ok_answers F T M (def_perform d43 T R0 R1 R2) tp
  obtain ⟨oc, od, kV, doc, pm, an, cdv, ct, osl, rfl, lk, hcd⟩ := F.ex
  exact ⟨_, fun s us hu => match us, hu with | [u], _ => .of_eq (by rfl), fun base _ _ => main base⟩
end Ct
open PySem PySem.W PyProof.Rows
set_option maxRecDepth 100000 in
set_option maxHeartbeats 0 in
theorem PySem.Challenge.cw_convoytimes_s01_answers_holds : PySem.Challenge.rw_convoytimes_s01_answers.Holds := by
  w_on; k_headS; (case hw => exact ⟨[.list [.int 0]], by decide +kernel, by decide +kernel⟩)
  k_fillS
  refine L2.walk_specK (r := PySem.Challenge.rw_convoytimes_s01_answers) (k := 11) (CX := L2.CX0) (ps := ["calls"]) (sp := Ct.spAns) (by decide +kernel) rfl rfl ⟨rfl, by decide, by decide⟩ (fun w h Y => PySem.W.kIn_of Y) ?F ?S (fun _ _ _ _ z => z)
  case F =>
    intro w mg fa h Y KX G hmg
    refine' Ct.all_mk KX G hmg ?aC ?a1 ?i1 ?l1 ?q1 ?k1 ?pg ?hd ?po ?sa ?mk ?kc ?nS ?nD ?b0 ?b1 ?b2 ?b3 ?b4 ?b5 ?b6 ?k0_ ?k1_ ?k2_ ?k3_ ?k4_ ?k5_ ?k6_ ?k7_ ?k8_ ?k9_ ?k10_ ?k11_ ?k12_ ?d0 ?d1 ?d2 ?d3 ?d4 ?d5 ?d6 ?d7 ?d8 ?d9 ?d10 ?d11 ?d12 ?d13 ?d14 ?d15 ?d16 ?d17 ?d18 ?d19 ?d20 ?d21 ?d22 ?d23 ?d24 ?d25 ?d26 ?d27 ?d28 ?d29 ?d30 ?d31 ?d32 ?d33 ?d34 ?d35 ?d36 ?d37 ?d38 ?d39 ?d40 ?d41 ?d42 ?d43 ?d44 ?t0 ?t1 ?t2 ?tp
    (case aC => k_is); (case a1 => k_is); (case i1 => k_is); (case l1 => k_is); (case q1 => k_is); (case k1 => k_is)
    (case pg => k_is); (case hd => k_is); (case po => k_is); (case sa => k_is); (case mk => k_is); (case kc => k_is); (case nS => k_is); (case nD => k_is)
    (case b0 => k_is); (case b1 => k_is); (case b2 => k_is); (case b3 => k_is); (case b4 => k_is); (case b5 => k_is); (case b6 => k_is)
    iterate 13 (refine' Ct.conF_mk KX G ?a; (case a => k_is))
    iterate 45 (refine' Ct.defF_mk KX G ?a ?l ?c ?k; (case a => k_is); (case l => k_is); (case c => k_is); (case k => k_is))
    (case t0 =>
      refine' ⟨_, PySem.W.mg_of KX G ?a_0, Ct.row_mk KX G ?b0_0 (Ct.tab_row ?l_0 ?k_0 ?e0_0), Ct.row_mk KX G ?b1_0 (Ct.tab_row ?l_0 ?k_0 ?e1_0), Ct.row_mk KX G ?b2_0 (Ct.tab_row ?l_0 ?k_0 ?e2_0), Ct.row_mk KX G ?b3_0 (Ct.tab_row ?l_0 ?k_0 ?e3_0), Ct.row_mk KX G ?b4_0 (Ct.tab_row ?l_0 ?k_0 ?e4_0), Ct.row_mk KX G ?b5_0 (Ct.tab_row ?l_0 ?k_0 ?e5_0), Ct.row_mk KX G ?b6_0 (Ct.tab_row ?l_0 ?k_0 ?e6_0), Ct.row_mk KX G ?b7_0 (Ct.tab_row ?l_0 ?k_0 ?e7_0)⟩
      (case a_0 => k_is); (case b0_0 => k_is); (case b1_0 => k_is); (case b2_0 => k_is); (case b3_0 => k_is); (case b4_0 => k_is); (case b5_0 => k_is); (case b6_0 => k_is); (case b7_0 => k_is); (case l_0 => k_is)
      (case k_0 => exact ⟨⟨_, _, rfl, rfl⟩, ⟨_, _, rfl, rfl⟩, ⟨_, _, rfl, rfl⟩, ⟨_, _, rfl, rfl⟩, ⟨_, _, rfl, rfl⟩, ⟨_, _, rfl, rfl⟩, ⟨_, _, rfl, rfl⟩, ⟨_, _, rfl, rfl⟩, trivial⟩)
      (case e0_0 => rfl); (case e1_0 => rfl); (case e2_0 => rfl); (case e3_0 => rfl); (case e4_0 => rfl); (case e5_0 => rfl); (case e6_0 => rfl); (case e7_0 => rfl))
    (case t1 =>
      refine' ⟨_, PySem.W.mg_of KX G ?a_1, Ct.row_mk KX G ?b0_1 (Ct.tab_row ?l_1 ?k_1 ?e0_1), Ct.row_mk KX G ?b1_1 (Ct.tab_row ?l_1 ?k_1 ?e1_1), Ct.row_mk KX G ?b2_1 (Ct.tab_row ?l_1 ?k_1 ?e2_1), Ct.row_mk KX G ?b3_1 (Ct.tab_row ?l_1 ?k_1 ?e3_1), Ct.row_mk KX G ?b4_1 (Ct.tab_row ?l_1 ?k_1 ?e4_1), Ct.row_mk KX G ?b5_1 (Ct.tab_row ?l_1 ?k_1 ?e5_1), Ct.row_mk KX G ?b6_1 (Ct.tab_row ?l_1 ?k_1 ?e6_1), Ct.row_mk KX G ?b7_1 (Ct.tab_row ?l_1 ?k_1 ?e7_1), Ct.row_mk KX G ?b8_1 (Ct.tab_row ?l_1 ?k_1 ?e8_1), Ct.row_mk KX G ?b9_1 (Ct.tab_row ?l_1 ?k_1 ?e9_1), Ct.row_mk KX G ?b10_1 (Ct.tab_row ?l_1 ?k_1 ?e10_1), Ct.row_mk KX G ?b11_1 (Ct.tab_row ?l_1 ?k_1 ?e11_1)⟩
      (case a_1 => k_is); (case b0_1 => k_is); (case b1_1 => k_is); (case b2_1 => k_is); (case b3_1 => k_is); (case b4_1 => k_is); (case b5_1 => k_is); (case b6_1 => k_is); (case b7_1 => k_is); (case b8_1 => k_is); (case b9_1 => k_is); (case b10_1 => k_is); (case b11_1 => k_is); (case l_1 => k_is)
      (case k_1 => exact ⟨⟨_, _, rfl, rfl⟩, ⟨_, _, rfl, rfl⟩, ⟨_, _, rfl, rfl⟩, ⟨_, _, rfl, rfl⟩, ⟨_, _, rfl, rfl⟩, ⟨_, _, rfl, rfl⟩, ⟨_, _, rfl, rfl⟩, ⟨_, _, rfl, rfl⟩, ⟨_, _, rfl, rfl⟩, ⟨_, _, rfl, rfl⟩, ⟨_, _, rfl, rfl⟩, ⟨_, _, rfl, rfl⟩, trivial⟩)
      (case e0_1 => rfl); (case e1_1 => rfl); (case e2_1 => rfl); (case e3_1 => rfl); (case e4_1 => rfl); (case e5_1 => rfl); (case e6_1 => rfl); (case e7_1 => rfl); (case e8_1 => rfl); (case e9_1 => rfl); (case e10_1 => rfl); (case e11_1 => rfl))
    (case t2 =>
      refine' ⟨_, PySem.W.mg_of KX G ?a_2, Ct.row_mk KX G ?b0_2 (Ct.tab_row ?l_2 ?k_2 ?e0_2), Ct.row_mk KX G ?b1_2 (Ct.tab_row ?l_2 ?k_2 ?e1_2), Ct.row_mk KX G ?b2_2 (Ct.tab_row ?l_2 ?k_2 ?e2_2), Ct.row_mk KX G ?b3_2 (Ct.tab_row ?l_2 ?k_2 ?e3_2)⟩
      (case a_2 => k_is); (case b0_2 => k_is); (case b1_2 => k_is); (case b2_2 => k_is); (case b3_2 => k_is); (case l_2 => k_is)
      (case k_2 => exact ⟨⟨_, _, rfl, rfl⟩, ⟨_, _, rfl, rfl⟩, ⟨_, _, rfl, rfl⟩, ⟨_, _, rfl, rfl⟩, trivial⟩)
      (case e0_2 => rfl); (case e1_2 => rfl); (case e2_2 => rfl); (case e3_2 => rfl))
    (case tp =>
      refine' ⟨_, PySem.W.mg_of KX G ?a_3, Ct.sqT_mk ?l_3 ?s_3 ?v_3⟩
      (case a_3 => k_is); (case l_3 => k_is); (case s_3 => decide); (case v_3 => rfl))
  case S =>
    -- the request
    intro K H xs a hO hwi hask hx
    cases hx with
    | cons h1 h2 =>
      cases h2
      cases h1 with
      | lst hs ha =>
        have e := L2.ints_dw a.1 _ ha
        subst e
        have q : ((Codec.inLen 0 150 a.1 && a.1.all (Codec.inInt 0 4294967295)) && true) = true := hwi
        rw [Bool.and_eq_true, Bool.and_eq_true] at q
        refine ⟨_, a.1, rfl, hs, fun x hx => ?_, (Codec.inNat_iff.mp q.1.1).2, hask, fun H' p hp => .lst (L2.SqL.of hp) (L2.dw_ints _)⟩
        have := List.all_eq_true.mp q.1.2 x hx
        exact (Codec.inInt_iff.mp this).1
