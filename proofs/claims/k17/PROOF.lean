import PyProof.Rows.All
import Wide.All
import OpenK.AllK
import Wide.FinOn
import PyProof.ReprRoads
import KE.KMathG
import HandS.ForMost
import HandS.IsInst
import HandS.FStr
import HandS.Property
import HandS.Gcd
import HandS.NoneIn
import HandS.Style
import HandS.Flow
import HandS.Wide
import HandS.Conv
import HandS.Walk
import HandS.RaiseMore
import KE.KUnpackStar
import KE.KDictSum
import HandS.Sort
import HandS.MakeKwOnly
import HandS.Strs
import HandS.Ends
import HandS.SlotsOwn
import HandS.More
import PyProof.InstNe
import HandS.Small
import PyProof.ReprLen
import KE.KDictZip
import HandS.Zip
import HandS.Star
import HandS.Codes
import HandS.TupSets
import HandS.SortRule
import HandS.NamedTupSort
import PyProof.LongRange
import PyProof.ListRange
import HandS.WideBits
import HandS.Lambda
import HandS.TryMany
import HandS.HotCalls
import HandS.ExcInit
import HandS.ExcIs
import HandS.ExcInitHot
import KE.KExcIs
import HandS.WordsExc
import HandS.EndTab
import HandS.TupMul
import KE.GoesEnum
import HandS.Iter
import HandS.TryOnly
import KE.KDictItemsList
import KE.GoesNew
import KE.GoesMore
import KE.LtSeq
import KE.LtData
import KE.KExcInit
import PyProof.ExcBaseAll.LookupError
import PyProof.ExcBaseAll.ArithmeticError
import HandS.CallLocal
import KE.KTupSum
import HandS.TupLe
import HandS.HeadHook3
import PyProof.ListIndex
import HandS.Head0
import HandS.Head1
import HandS.Head2
import HandS.Head3
import HandS.HeadHook1
import HandS.HeadHook2
import HandS.HeadHook4
import PySem.Challenge.RW_tickshares_k17_errors_of_standings_in_or
set_option Elab.async false
set_option linter.all false
set_option maxHeartbeats 4000000
set_option maxRecDepth 100000
namespace Ts
open PySem PySem.Spec PyProof.Rows L2
def top (i : Nat) : Stmt := PySem.Challenge.pw_tickshares_k17_errors_of_standings_in_or.main.body.getD i (.Pass ⟨0, 0, 0, 0⟩)
end Ts
namespace Ts
open PySem PySem.Spec PyProof.Rows L2
/-! ## heaps -/
theorem same_new {H : Hp} {p : Addr} {o : HO} (h : H p = none) : Same H (upd H p o) := fun b x e => by
  rw [upd_ne (ne_of_none e h)]; exact e
theorem upd_free {H : Hp} {a p : Addr} {o : HO} (h : upd H a o p = none) : p ≠ a ∧ H p = none := by
  unfold upd at h
  split at h
  · cases h
  · exact ⟨by assumption, h⟩
/-- all but what stands at b is as it was -/
def But (b : Addr) (H H' : Hp) : Prop := ∀ a o, a ≠ b → H a = some o → H' a = some o
def hid (b : Addr) (H : Hp) : Hp := fun a => if a = b then none else H a
theorem hid_ne {b a : Addr} {H : Hp} (h : a ≠ b) : hid b H a = H a := if_neg h
theorem hid_some {b a : Addr} {H : Hp} {o : HO} (h : hid b H a = some o) : a ≠ b ∧ H a = some o := by
  unfold hid at h
  split at h
  · cases h
  · exact ⟨by assumption, h⟩
theorem hid_sub {b : Addr} {H : Hp} : Same (hid b H) H := fun a o h => (hid_some h).2
theorem But.refl {b : Addr} {H : Hp} : But b H H := fun _ _ _ h => h
theorem But.trans {b : Addr} {H H1 H2 : Hp} (x : But b H H1) (y : But b H1 H2) : But b H H2 := fun a o n h => y a o n (x a o n h)
theorem But.hid {b : Addr} {H H' : Hp} (x : But b H H') : Same (hid b H) (hid b H') := fun a o h => by
  obtain ⟨n, e⟩ := hid_some h
  rw [hid_ne n]; exact x a o n e
theorem But.of {b : Addr} {H H' : Hp} (x : Same (Ts.hid b H) (Ts.hid b H')) : But b H H' := fun a o n h => (hid_some (x a o (by rw [hid_ne n]; exact h))).2
theorem But.of_same {b : Addr} {H H' : Hp} (x : Same H H') : But b H H' := fun a o _ h => x a o h
theorem But.set {b : Addr} {H : Hp} {o : HO} : But b H (upd H b o) := fun a u n h => by rw [upd_ne n]; exact h
/-- a fresh address of a heap that has b -/
theorem But.free {b p : Addr} {H H' : Hp} (x : But b H H') (hb : b ≠ p) (h : H' p = none) : H p = none := by
  cases e : H p with
  | none => rfl
  | some o => rw [x p o (Ne.symm hb) e] at h; cases h
end Ts
namespace L2
open PySem PySem.Spec PyProof.Rows
/-! ## data that is read -/
mutual
theorem Dp.mono {K : PySem.W.Frag} {H H' : Hp} (s : Same H H') : ∀ {v : V} {d : PyData}, Dp K H v d → Dp K H' v d
  | _, _, .non => .non
  | _, _, .bl b => .bl b
  | _, _, .int i => .int i
  | _, _, .str x => .str x
  | _, _, .lst h a => .lst (s.seq h) (DpAll.mono s a)
  | _, _, .tup h a => .tup (by
      rcases h with (h | ⟨o, h⟩) | h
      · exact .inl (.inl (s _ _ h))
      · exact .inl (.inr ⟨o, s _ _ h⟩)
      · exact .inr h) (DpAll.mono s a)
theorem DpAll.mono {K : PySem.W.Frag} {H H' : Hp} (s : Same H H') : ∀ {vs : List V} {ds : List PyData}, DpAll K H vs ds → DpAll K H' vs ds
  | _, _, .nil => .nil
  | _, _, .cons h a => .cons (Dp.mono s h) (DpAll.mono s a)
end
theorem sameT {K : PySem.W.Frag} {H H' : Hp} (s : Same H H') {a : Addr} {xs : List V} (h : SqT K H a xs) : SqT K H' a xs := by
  rcases h with (h | ⟨o, h⟩) | h
  · exact .inl (.inl (s _ _ h))
  · exact .inl (.inr ⟨o, s _ _ h⟩)
  · exact .inr h
theorem DpAll.length {K : PySem.W.Frag} {H : Hp} : ∀ {vs : List V} {ds : List PyData}, DpAll K H vs ds → vs.length = ds.length
  | _, _, .nil => rfl
  | _, _, .cons _ a => congrArg (· + 1) (DpAll.length a)
theorem DpAll.get {K : PySem.W.Frag} {H : Hp} : ∀ {vs : List V} {ds : List PyData}, DpAll K H vs ds → ∀ {i : Nat} {v : V}, vs[i]? = some v → ∃ d, ds[i]? = some d ∧ Dp K H v d
  | _, _, .cons h a, 0, v, e => by
    have e' : _ = v := Option.some.inj e
    subst e'; exact ⟨_, rfl, h⟩
  | _, _, .cons h a, i + 1, v, e => DpAll.get (i := i) a e
theorem DpAll.append {K : PySem.W.Frag} {H : Hp} : ∀ {vs ws : List V} {ds es : List PyData}, DpAll K H vs ds → DpAll K H ws es → DpAll K H (vs ++ ws) (ds ++ es)
  | _, _, _, _, .nil, b => b
  | _, _, _, _, .cons h a, b => .cons h (DpAll.append a b)
theorem Dp.list {K : PySem.W.Frag} {H : Hp} {v : V} {ds : List PyData} (h : Dp K H v (.list ds)) : ∃ a xs, v = .ref a ∧ SqL K H a xs ∧ DpAll K H xs ds := by
  cases h with
  | lst h a => exact ⟨_, _, rfl, h, a⟩
theorem Dp.tuple {K : PySem.W.Frag} {H : Hp} {v : V} {ds : List PyData} (h : Dp K H v (.tuple ds)) : ∃ a xs, v = .ref a ∧ SqT K H a xs ∧ DpAll K H xs ds := by
  cases h with
  | tup h a => exact ⟨_, _, rfl, h, a⟩
theorem Dp.int_eq {K : PySem.W.Frag} {H : Hp} {v : V} {i : Int} (h : Dp K H v (.int i)) : v = .int i := by cases h; rfl
theorem Dp.str_eq {K : PySem.W.Frag} {H : Hp} {v : V} {x : Str} (h : Dp K H v (.str x)) : v = .str x := by cases h; rfl
theorem DpAll.two {K : PySem.W.Frag} {H : Hp} {xs : List V} {d e : PyData} (h : DpAll K H xs [d, e]) : ∃ v w, xs = [v, w] ∧ Dp K H v d ∧ Dp K H w e := by
  cases h with
  | cons h a => cases a with
    | cons g b => cases b; exact ⟨_, _, rfl, h, g⟩
theorem DpAll.ints {K : PySem.W.Frag} {H : Hp} : ∀ (l : List Int), DpAll K H (l.map V.int) (l.map PyData.int)
  | [] => .nil
  | i :: l => .cons (.int i) (DpAll.ints l)
theorem DpAll.strs {K : PySem.W.Frag} {H : Hp} : ∀ (l : List Str), DpAll K H (l.map V.str) (l.map PyData.str)
  | [] => .nil
  | i :: l => .cons (.str i) (DpAll.strs l)
theorem DpAll.ints_eq {K : PySem.W.Frag} {H : Hp} : ∀ {vs : List V} {l : List Int}, DpAll K H vs (l.map PyData.int) → vs = l.map V.int
  | [], [], _ => rfl
  | _ :: _, [], h => nomatch h
  | _, i :: l, .cons h a => by rw [Dp.int_eq h, DpAll.ints_eq a]; rfl
/-- an address that holds no list and no tuple is none of the data's -/
def NoSeq (o : HO) : Prop := (∀ xs, o ≠ .lst xs) ∧ (∀ xs, o ≠ .tup xs) ∧ ∀ ob u, o ≠ .frz ob u
theorem NoSeq.ins {C dx : Addr} {fs : List (Str × V)} : NoSeq (.ins C dx fs) := ⟨fun _ z => (nomatch z), fun _ z => (nomatch z), fun _ _ z => (nomatch z)⟩
theorem SqL.hide {K : PySem.W.Frag} {H : Hp} {a b : Addr} {o : HO} {xs : List V} (ha : H a = some o) (n : NoSeq o) (h : SqL K H b xs) : SqL K (Ts.hid a H) b xs := by
  have ne : ∀ u, H b = some u → u ≠ o → b ≠ a := fun u e d z => by rw [z, ha] at e; exact d (Option.some.inj e).symm
  rcases h with (h | ⟨ob, h⟩) | h
  · exact .inl (.inl ((Ts.hid_ne (ne _ h fun z => n.1 _ z.symm)).trans h))
  · exact .inl (.inr ⟨ob, (Ts.hid_ne (ne _ h fun z => n.2.2 _ _ z.symm)).trans h⟩)
  · exact .inr h
theorem SqT.hide {K : PySem.W.Frag} {H : Hp} {a b : Addr} {o : HO} {xs : List V} (ha : H a = some o) (n : NoSeq o) (h : SqT K H b xs) : SqT K (Ts.hid a H) b xs := by
  have ne : ∀ u, H b = some u → u ≠ o → b ≠ a := fun u e d z => by rw [z, ha] at e; exact d (Option.some.inj e).symm
  rcases h with (h | ⟨ob, h⟩) | h
  · exact .inl (.inl ((Ts.hid_ne (ne _ h fun z => n.2.1 _ z.symm)).trans h))
  · exact .inl (.inr ⟨ob, (Ts.hid_ne (ne _ h fun z => n.2.2 _ _ z.symm)).trans h⟩)
  · exact .inr h
mutual
theorem Dp.hide {K : PySem.W.Frag} {H : Hp} {a : Addr} {o : HO} (ha : H a = some o) (n : NoSeq o) : ∀ {v : V} {d : PyData}, Dp K H v d → Dp K (Ts.hid a H) v d
  | _, _, .non => .non
  | _, _, .bl b => .bl b
  | _, _, .int i => .int i
  | _, _, .str x => .str x
  | _, _, .lst h x => .lst (h.hide ha n) (DpAll.hide ha n x)
  | _, _, .tup h x => .tup (h.hide ha n) (DpAll.hide ha n x)
theorem DpAll.hide {K : PySem.W.Frag} {H : Hp} {a : Addr} {o : HO} (ha : H a = some o) (n : NoSeq o) : ∀ {vs : List V} {ds : List PyData}, DpAll K H vs ds → DpAll K (Ts.hid a H) vs ds
  | _, _, .nil => .nil
  | _, _, .cons h x => .cons (Dp.hide ha n h) (DpAll.hide ha n x)
end
end L2
namespace Ts
open PySem PySem.Spec PyProof.Rows L2
/-- a comprehension's clause without tests -/
theorem yesIf {σ : L2.St} {H : Hp} {A B : Hp → Prop} (h : A H) : tYes σ H (fun b H3 => if b = true then A H3 else B H3) := by
  show (if true = true then A H else B H)
  exact iteT h
/-! ## a def by its promise -/
section
variable (P : Program) (w : World) (K : PySem.W.Frag) (mg : Str → Option Value) (base : Heap)
structure Has (k : Nat) (x : Str) (ps : List Str) (sp : Sp) : Prop where
  ex : ∃ f fd, FnOk P w K mg base CX0 k f fd ps sp ∧ mg x = some (.ref f) ∧ PySem.W.keepIn K (.ref f) = true ∧ Binds K fd ps []
/-- a def that stands at the top under its name -/
structure DefAt (x : Str) (st : Stmt) : Prop where
  ex : ∃ f fd, Fun K x x st f fd ∧ mg x = some (.ref f)
/-- as FnOk, where no repr runs around the call -/
structure FnG (k : Nat) (f : Addr) (fd : FuncData) (ps : List Str) (sp : Sp) : Prop where
  len : ∀ vs H Q E, sp vs H Q E → vs.length = ps.length
  go : ∀ (A : Around) (out : List Env) (s : Shared) (H : Hp) (us : List Value) (vs : List V) (Q : VK), A.guards = some [] → Room k A → Env0 P w K mg base A out s H →
    BindsTo s fd ⟨us, []⟩ (ps.zip us) → Vals vs us → sp vs H Q E0 → codeAny (model P w) A (.call (.ref f) ⟨us, []⟩) (CR CX0 out P w H s Q E0) s
structure HasG (k : Nat) (x : Str) (ps : List Str) (sp : Sp) : Prop where
  ex : ∃ f fd, FnG P w K mg base k f fd ps sp ∧ mg x = some (.ref f) ∧ PySem.W.keepIn K (.ref f) = true ∧ Binds K fd ps []
end
section
variable {P : Program} {w : World} {K : PySem.W.Frag} {mg : Str → Option Value} {base : Heap}
theorem DefAt.has {x : Str} {st : Stmt} {k : Nat} {ps : List Str} {sp : Sp} (D : DefAt K mg x st)
    (hb : ∀ (kV doc pm : Value) (an : Option Addr) (cdv ct : Value) (us : List Value), us.length = ps.length → bindArgs (PySem.W.fnOf x x (defArgs st) (defBody st) (defScope st) .none kV doc pm an cdv ct) ⟨us, []⟩ = pure (ps.zip us))
    (ok : ∀ f fd, Fun K x x st f fd → FnOk P w K mg base CX0 k f fd ps sp) : Has P w K mg base k x ps sp := by
  obtain ⟨f, fd, F, hm⟩ := D.ex
  exact ⟨f, fd, ok f fd F, hm, F.kp, F.binds hb⟩
theorem DefAt.hasG {x : Str} {st : Stmt} {k : Nat} {ps : List Str} {sp : Sp} (D : DefAt K mg x st)
    (hb : ∀ (kV doc pm : Value) (an : Option Addr) (cdv ct : Value) (us : List Value), us.length = ps.length → bindArgs (PySem.W.fnOf x x (defArgs st) (defBody st) (defScope st) .none kV doc pm an cdv ct) ⟨us, []⟩ = pure (ps.zip us))
    (ok : ∀ f fd, Fun K x x st f fd → FnG P w K mg base k f fd ps sp) : HasG P w K mg base k x ps sp := by
  obtain ⟨f, fd, F, hm⟩ := D.ex
  exact ⟨f, fd, ok f fd F, hm, F.kp, F.binds hb⟩
end
section
variable {X : Cx} {k : Nat} {x : Str} {ps : List Str} {sp : Sp} {p pos : Pos} {e : Expr} {es : List Expr} {t : TA}
/-- a call of a def that keeps a promise -/
theorem pe_h (h : Has X.prog X.w X.K X.mg X.base k x ps sp) (hr : Room k X.A) (ha : PA X (e :: es) t) (hg : Gl X x := by rfl) (hdb : (x == ("__debug__" : Str)) = false := by decide)
    (he : starEach (e :: es) X.env = (false, eval e X.env) :: starEach es X.env := by rfl) (hpl : (backTo pos (starEach es X.env)).any (·.1) = false := by rfl) :
    PE X (.Call (.Name x p) (e :: es) [] pos) (tCall sp [] E0 t) := by
  obtain ⟨f, fd, F, hm, hk, hb⟩ := h.ex
  exact pe_call F hr hg hm hk hb .nil pass0 ha hdb he hpl
/-- .. of one that wants that no repr runs around -/
theorem pe_g (h : HasG X.prog X.w X.K X.mg X.base k x ps sp) (hgd : X.A.guards = some []) (hr : Room k X.A) (ha : PA X (e :: es) t) (hg : Gl X x := by rfl) (hdb : (x == ("__debug__" : Str)) = false := by decide)
    (he : starEach (e :: es) X.env = (false, eval e X.env) :: starEach es X.env := by rfl) (hpl : (backTo pos (starEach es X.env)).any (·.1) = false := by rfl) :
    PE X (.Call (.Name x p) (e :: es) [] pos) (tCall sp [] E0 t) := by
  obtain ⟨f, fd, F, hm, hk, hb⟩ := h.ex
  refine ⟨fun pins s σ H Q I q => ?_⟩
  refine wpAny_Call_Name_kw (ld_glob I hg hm ?_ hdb)
  refine PySem.W.callWith_K (h₀ := X.base) I.ok.mod.kin hk (thn (ha.run pos pins s σ H _ I q) fun us s1 hq => ?_) he hpl
  obtain ⟨vs, H1, I1, r, q1⟩ := hq
  have q2 : sp vs H1 Q E0 := by rw [List.append_nil] at q1; exact q1
  refine ⟨I1.kIn, wpAny_call (codeAny_mono (F.go X.A X.stack s1 H1 us vs Q hgd hr I1.env0 ?_ r q2) fun rr s2 z => ?_)⟩
  · have := hb s1 us I1.kIn (by rw [List.append_nil, ← r.length]; exact F.len _ _ _ _ q2)
    rw [List.append_nil] at this; exact this
  · cases rr with
    | error er => exact z.elim
    | ok fl => cases fl with
      | ret u => exact I1.after z
      | next => exact z.elim
      | brk => exact z.elim
      | cont => exact z.elim
end
/-- a def of the text in such surroundings, by its body -/
theorem fun_g {P : Program} {w : World} {K : PySem.W.Frag} {mg : Str → Option Value} {base : Heap} {x qual : Str} {st : Stmt} {f : Addr} {fd : FuncData} {N ps : List Str} {k : Nat} {sp : Sp} (F : Fun K x qual st f fd) (S : FnScope N ps (defScope st))
    (ln : ∀ vs H Q E, sp vs H Q E → vs.length = ps.length)
    (hb : ∀ (cdv : Value) (A : Around) (out : List Env) (s : Shared) (H : Hp) (vs : List V) (Q : VK), A.guards = some [] → Room k (A.deeper (envOfC qual (defScope st) s.heap.objs.size f cdv)) → sp vs H Q E0 →
      ∃ t, PSs (cxOf CX0 P w K mg base N qual (defScope st) f cdv A out s H E0).nox (defBody st) t ∧ t { nx := fun _ H' => Q .non H', rt := Q } (start N vs) H) : FnG P w K mg base (k + 1) f fd ps sp := by
  obtain ⟨oc, od, kV, doc, pm, an, cdv, ct, osl, rfl, lk, hcd⟩ := F.ex
  refine ⟨ln, fun A out s H us vs Q hg hr e0 hbd r q => ?_⟩
  -- the promise at this very place, for the one surrounding A
  let sp1 : Sp := fun vs' H' Q' _ => vs' = vs ∧ H' = H ∧ (∀ v h, Q v h → Q' v h)
  have kin : K.In s.heap := e0.mod.kin.keeps fun b o e => (e0.bs b o e).1
  have lim : s.heap.NoLimit := e0.mod.nolimit.keeps fun b o e => (e0.bs b o e).1
  have hvl : vs.length = ps.length := ln _ _ _ _ q
  have kinds : ∀ y ∈ ps.zip us, (defScope st).names.lookup y.1 = some .local ∨ ((defScope st).names.lookup y.1 = some .cell ∧ ((cellsFrom (s.heap.objs.size + 1) (defScope st).names []).lookup y.1).isSome = true) := by
    intro y hy
    have hm : y.1 ∈ ps := (List.of_mem_zip (a := y.1) (b := y.2) hy).1
    rcases S.par _ hm with z | z
    · exact Or.inl z
    · exact Or.inr ⟨z, PySem.W.cellsFrom_some _ _ _ (Or.inl z)⟩
  refine codeAny_call_function hr.depth (kin _ _ lk) rfl S.co S.gen rfl (PySem.W.codeRec_of kin hcd) (hbd _ _ _ _ ?_)
  refine wpAny_newFunctionEnv_cells S.kind kinds fun env he s1 ic => ?_
  subst he
  refine ⟨lim.keeps ic.toInCall.keep, codeAny_func ?_⟩
  obtain ⟨t, ht, hq⟩ := hb cdv A out s H vs Q hg (hr.deeper _) q
  have J := inv_start (CX := CX0) (E := E0) S hr.hd e0 hvl r ic
  refine wpAny_mono (ht.nox.run [] s1 (start N vs) H _ J hq) (fun fl s2 z => ?_) fun er s2 z => z
  cases fl with
  | ret u => obtain ⟨v, σ2, H2, J2, rv, q2⟩ := z; exact ⟨v, H2, J2.os, J2.bare, J2.base, J2.hok, rv, q2⟩
  | next => obtain ⟨σ2, H2, J2, q2⟩ := z; exact ⟨V.non, H2, J2.os, J2.bare, J2.base, J2.hok, rfl, q2⟩
  | brk => obtain ⟨_, _, _, z2⟩ := z; exact z2.elim
  | cont => obtain ⟨_, _, _, z2⟩ := z; exact z2.elim
/-! ## built-ins that the layer lacks -/
section
variable {X : Cx}
theorem cr_lcm : CallR X (.builtin "math.lcm") (fun vs H Q => ∃ a b : Nat, vs = [.int a, .int b] ∧ a < 2 ^ 31 ∧ b < 2 ^ 31 ∧ Q (.int ((Nat.lcm a b : Nat) : Int)) H) := by
  intro pins s σ H vs us Q I r h
  obtain ⟨a, b, rfl, ha, hb, q⟩ := h
  obtain ⟨t, u, rfl⟩ := Vals.int2 r
  have hl : Nat.lcm a b ≤ a * b := Nat.div_le_self _ _
  have hp : a * b < 2 ^ 62 := by
    rcases Nat.eq_zero_or_pos b with z | z
    · subst z; simp
    · calc a * b < 2 ^ 31 * b := Nat.mul_lt_mul_of_pos_right ha z
        _ ≤ 2 ^ 31 * 2 ^ 31 := Nat.mul_le_mul_left _ (Nat.le_of_lt hb)
        _ = 2 ^ 62 := by decide
  refine PySem.W.mg_lcm_v (c := ((Nat.lcm a b : Nat) : Int)) (by omega) (by omega) (by simp) ?_ ⟨.int _, H, I.tok _, ⟨_, rfl⟩, q⟩
  have h3 : ((Nat.lcm a b : Nat) : Int).natAbs < 2 ^ 62 := by simp; omega
  have h4 : ((Nat.lcm a b : Nat) : Int).natAbs.log2 < 62 ∨ ((Nat.lcm a b : Nat) : Int).natAbs = 0 := by
    by_cases z : ((Nat.lcm a b : Nat) : Int).natAbs = 0
    · exact Or.inr z
    · exact Or.inl ((Nat.log2_lt z).mpr h3)
  rcases h4 with h4 | h4
  · exact Nat.lt_of_lt_of_le h4 (by decide)
  · rw [h4]; decide
/-- repr of data, where no repr runs around -/
theorem call_reprD (hg : X.A.guards = some []) (hu : X.A.units + 100 < cLine) : CallR X (.builtin "repr") (fun xs H Q => ∃ a d, xs = [.ref a] ∧ Dp X.K H (.ref a) d ∧ d.showable = true ∧ d.hasDict = false ∧ d.depth < 60 ∧ d.shown.length ≤ sizeLine ∧ Q (.str d.shown) H) := by
  intro pins s σ H xs us Q I r h
  obtain ⟨a, d, rfl, hd, h1, h2, h3, h4, q⟩ := h
  obtain ⟨u, rfl, ru⟩ := vals1 r
  obtain rfl : u = Value.ref a := ru
  obtain ⟨as, rd⟩ := Dp.reads I d _ _ hd rfl
  exact repr_of_reads' rd h1 (PyData.noDict_hsm h2) hg (by omega) (fun _ _ e => e) (fun h' u tk hk => ⟨.str d.shown, H, I.kept hk, ⟨u, rfl⟩, q⟩) h4
end
/-! ## the rules with the written part named (for what stands in a comprehension) -/
section
variable {X : Cx} {K : PySem.W.Frag}
theorem ixL (h : X.K = K) : IxR X (rIxL K) := by subst h; exact ix_list
theorem ixT (h : X.K = K) : IxR X (rIxT K) := by subst h; exact ix_tup
theorem notInS (h : X.K = K) : OpR X (compareOp .NotIn) (rIn K true) := by subst h; exact op_notIn_seq
theorem lenS (h : X.K = K) : CallR X (.builtin "len") (fun xs H Q => ∃ p ys, xs = [.ref p] ∧ (SqL K H p ys ∨ SqT K H p ys) ∧ Q (.int ys.length) H) := by subst h; exact call_len_seq
theorem pg_tupK {es : List Expr} {k : Nat} {t : TGs} {n : Nat} {pos : Pos} (hK : X.K = K) (hc : X.calm = true) (h : PGs X es t)
    (hn : (assignEach es X.env).length = n := by rfl) (hst : (assignEach es X.env).findIdx? (·.1) = none := by rfl) : PG X (.Tuple es k pos) (gTup K n t) := by subst hK; exact pg_tup hc h hn hst
end
theorem pe_ty {X : Cx} {x : Str} {pos : Pos} (n : String) (hm : X.mg x = none) (hg : Gl X x := by rfl) (hv : bootBuiltins x = some (.type n) := by decide +kernel) (hn : x ≠ "__name__" := by decide) (hd : (x == ("__debug__" : Str)) = false := by decide) :
    PE X (.Name x pos) (tC (.ty n)) := pe_bltn hg hm hv rfl hn hd
end Ts
namespace Ts
open PySem PySem.Spec PyProof.Rows L2
/-- the built-in names that the texts use -/
structure Blt0 (mg : Str → Option Value) : Prop where
  zlen : mg "len" = none
  zrange : mg "range" = none
  zabs : mg "abs" = none
  zdivmod : mg "divmod" = none
  zint : mg "int" = none
  zstr : mg "str" = none
  zbool : mg "bool" = none
  zrepr : mg "repr" = none
  zisinstance : mg "isinstance" = none
  ztuple : mg "tuple" = none
  zlist : mg "list" = none
  zdict : mg "dict" = none
  zzip : mg "zip" = none
  zsum : mg "sum" = none
  zall : mg "all" = none
  zmax : mg "max" = none
  zmin : mg "min" = none
  zsorted : mg "sorted" = none
  zset : mg "set" = none
  zenumerate : mg "enumerate" = none
structure Blt (mg : Str → Option Value) : Prop extends Blt0 mg where
  g_gcd : mg "gcd" = some (.builtin "math.gcd")
  g_lcm : mg "lcm" = some (.builtin "math.lcm")
instance {mg : Str → Option Value} : Coe (Blt mg) (Blt0 mg) := ⟨Blt.toBlt0⟩
/-! ## the law's own draws -/
/-- at b: where draws come from -/
def Bas (H : Hp) (b : Addr) : Prop := ∃ x y z : Int, H b = some (.lst [.int x, .int y, .int z])
def spLadle : Sp := fun vs H Q _ => ∃ (b : Addr) (m : Int), vs = [.ref b, .int m] ∧ Bas H b ∧ 0 < m ∧ m < 1073741824 ∧
  ∀ (r : Int) (H' : Hp), 0 ≤ r → r < m → But b H H' → Bas H' b → Q (.int r) H'
/-- a basin made of a script of ints -/
def spBasin (K : PySem.W.Frag) : Sp := fun vs H Q _ => ∃ (a : Addr) (ns : List Int) (i : Nat), vs = [.ref a, .int i] ∧ SqL K H a (ns.map V.int) ∧ ns.length ≤ 63 ∧ i < 63 ∧
  ∀ (b : Addr) (H' : Hp), H b = none → Same H H' → Bas H' b → Q (.ref b) H'
/-- a fraction without common divisors -/
def spLowest : Sp := fun vs H Q _ => ∃ (a b : Nat), vs = [.int a, .int b] ∧ 0 < b ∧ b < 2 ^ 30 ∧
  ∀ (p : Addr) (H' : Hp), H p = none → Same H H' → H' p = some (.tup [.int ((a / Nat.gcd a b : Nat) : Int), .int ((b / Nat.gcd a b : Nat) : Int)]) → Q (.ref p) H'
/-- a drawn share -/
def GoodPart (m e p : Nat) : Prop := 1 ≤ e ∧ e ≤ p ∧ p ≤ m ∧ Nat.gcd e p = 1
def spPart : Sp := fun vs H Q _ => ∃ (b : Addr) (m : Nat), vs = [.ref b, .int m] ∧ Bas H b ∧ 0 < m ∧ m ≤ 1000 ∧
  ∀ (e p : Nat) (q : Addr) (H' : Hp), GoodPart m e p → H q = none → But b H H' → Bas H' b → H' q = some (.tup [.int (e : Int), .int (p : Int)]) → Q (.ref q) H'
/-! ## names -/
def IsTag (t : Str) : Prop := 1 ≤ t.length ∧ t.length ≤ 8 ∧ ∀ c ∈ t.cps.toList, 97 ≤ c ∧ c ≤ 122
def spTags : Sp := fun vs H Q _ => ∃ (b : Addr) (n : Nat), vs = [.ref b, .int n] ∧ Bas H b ∧ n ≤ 20 ∧
  ∀ (ts : List Str) (p : Addr) (H' : Hp), ts.length = n → ts.Nodup → (∀ t ∈ ts, IsTag t) → H p = none → But b H H' → Bas H' b → H' p = some (.lst (ts.map V.str)) → Q (.ref p) H'
/-! ## plain lists -/
theorem atI_in {xs : List V} {r : Int} (h0 : 0 ≤ r) (h1 : r < xs.length) : ∃ v, atI xs r = some v ∧ v ∈ xs := by
  obtain ⟨k, rfl⟩ := Int.eq_ofNat_of_zero_le h0
  have hk : k < xs.length := by omega
  exact ⟨xs[k], atI_nat (List.getElem?_eq_getElem hk), List.getElem_mem hk⟩
theorem atI_inN {xs : List Nat} {r : Int} (h0 : 0 ≤ r) (h1 : r < xs.length) : ∃ v, atI xs r = some v ∧ v ∈ xs := by
  obtain ⟨k, rfl⟩ := Int.eq_ofNat_of_zero_le h0
  have hk : k < xs.length := by omega
  exact ⟨xs[k], atI_nat (List.getElem?_eq_getElem hk), List.getElem_mem hk⟩
theorem inV_strs (t : Str) (ts : List Str) : inV (.str t) (ts.map V.str) = decide (t ∈ ts) := by
  unfold inV
  rw [Bool.eq_iff_iff, List.any_map]
  simp only [List.any_eq_true, Function.comp, eqV, beq_iff_eq, decide_eq_true_eq]
  constructor
  · rintro ⟨x, h, e⟩; rw [← e]; exact h
  · intro h; exact ⟨t, h, rfl⟩
theorem flat_strs (ts : List Str) : (ts.map V.str).all flatV = true := by
  rw [List.all_map]; simp [Function.comp, flatV]
theorem len_sub {α : Type} [DecidableEq α] : ∀ {l m : List α}, l.Nodup → (∀ x ∈ l, x ∈ m) → l.length ≤ m.length
  | [], _, _, _ => Nat.zero_le _
  | a :: l, m, hn, hs => by
    obtain ⟨h1, h2⟩ := List.nodup_cons.mp hn
    have ha : a ∈ m := hs a List.mem_cons_self
    have ih := len_sub (l := l) (m := m.erase a) h2 fun x hx => by
      have hx2 := hs x (List.mem_cons_of_mem _ hx)
      have ne : x ≠ a := fun e => h1 (e ▸ hx)
      exact (List.mem_erase_of_ne ne).mpr hx2
    rw [List.length_erase_of_mem ha] at ih
    have := List.length_pos_of_mem ha
    show l.length + 1 ≤ m.length
    omega
theorem exists_new {α : Type} [DecidableEq α] {l m : List α} (hn : l.Nodup) (h : m.length < l.length) : ∃ x ∈ l, x ∉ m := by
  by_cases e : ∃ x ∈ l, x ∉ m
  · exact e
  · refine absurd (len_sub hn (m := m) fun x hx => ?_) (by omega)
    by_cases hm : x ∈ m
    · exact hm
    · exact absurd ⟨x, hx, hm⟩ e
theorem map_take_succ {α β : Type} (f : α → β) {l : List α} {i : Nat} {x : α} (h : l[i]? = some x) : (l.take (i + 1)).map f = (l.take i).map f ++ [f x] := by
  rw [List.take_add_one, h, List.map_append]; rfl
theorem filter_take_succ {α : Type} (f : α → Bool) {l : List α} {i : Nat} {x : α} (h : l[i]? = some x) : (l.take (i + 1)).filter f = (l.take i).filter f ++ if f x then [x] else [] := by
  rw [List.take_add_one, h, List.filter_append]
  congr 1
  show List.filter f [x] = _
  by_cases c : f x = true
  · rw [if_pos c, List.filter_cons_of_pos c]; rfl
  · rw [if_neg c, List.filter_cons_of_neg c]; rfl
/-- y and a letter -/
def spareL : List Str := (List.range 26).map fun i => ⟨#[121, 97 + i]⟩
theorem spare_nd : spareL.Nodup := by decide +kernel
theorem spare_len : spareL.length = 26 := by decide +kernel
theorem spare_tag : ∀ t ∈ spareL, IsTag t := by
  intro t ht
  obtain ⟨i, hi, rfl⟩ := List.mem_map.mp ht
  have hi' : i < 26 := List.mem_range.mp hi
  refine ⟨by show 1 ≤ 2; decide, by show 2 ≤ 8; decide, fun c hc => ?_⟩
  have hc' : c = 121 ∨ c = 97 + i := by simpa using hc
  omega
/-- what grows at a new place: what stood ahead of it stands -/
theorem Same.app {H0 H1 : Hp} {D : Addr} {o : HO} (h0 : H0 D = none) (s : Same H0 H1) : Same H0 (upd H1 D o) := fun a u e => by
  rw [upd_ne (ne_of_none e h0)]; exact s a u e
theorem abc_has {c : Nat} (h : 97 ≤ c ∧ c ≤ 122) : c ∈ (Str.ofString "abcdefghijklmnopqrstuvwxyz").cps.toList := by
  have e : (Str.ofString "abcdefghijklmnopqrstuvwxyz").cps.toList = (List.range 26).map (97 + ·) := by decide +kernel
  rw [e]
  exact List.mem_map.mpr ⟨c - 97, List.mem_range.mpr (by omega), by omega⟩
end Ts
namespace Ts
open PySem PySem.Spec PyProof.Rows L2
/-! ## works -/
abbrev Job := Str × Nat × Nat
def partD (e p : Nat) : PyData := .tuple [.int (e : Int), .int (p : Int)]
def jobD (j : Job) : PyData := .tuple [.str j.1, partD j.2.1 j.2.2]
def jobsD (js : List Job) : PyData := .list (js.map jobD)
/-- works with names of their own and shares up to d -/
structure Good (d : Nat) (js : List Job) : Prop where
  nd : (js.map (·.1)).Nodup
  tag : ∀ j ∈ js, IsTag j.1
  part : ∀ j ∈ js, GoodPart d j.2.1 j.2.2
def spJobs (K : PySem.W.Frag) : Sp := fun vs H Q _ => ∃ (b : Addr) (m d : Nat), vs = [.ref b, .int m, .int d] ∧ Bas H b ∧ 0 < m ∧ m ≤ 20 ∧ 0 < d ∧ d ≤ 1000 ∧
  ∀ (js : List Job) (p : Addr) (xs : List V) (H' : Hp), 0 < js.length → js.length ≤ m → Good d js → H p = none → But b H H' → Bas H' b → H' p = some (.lst xs) → DpAll K (hid b H') xs (js.map jobD) → Q (.ref p) H'
/-! ## the text of a lot -/
def numS (n : Nat) : Str := Str.ofString (toString ((n : Nat) : Int))
def nlS : Str := Str.ofString "\n"
def rowS (j : Job) : Str := Str.ofString "work " ++ j.1 ++ Str.ofString " " ++ numS j.2.1 ++ Str.ofString "/" ++ numS j.2.2
def handsS (n : Nat) : Str := Str.ofString "hands " ++ numS n
def rowsOf (n : Nat) (js : List Job) : List Str := handsS n :: js.map rowS
def pageS (n : Nat) (js : List Job) : Str := Txt.join nlS (rowsOf n js)
def spPage (K : PySem.W.Frag) : Sp := fun vs H Q _ => ∃ (n : Nat) (p : Addr) (js : List Job), vs = [.int n, .ref p] ∧ n ≤ 1000 ∧ js.length ≤ 20 ∧ Good 1000 js ∧ Dp K H (.ref p) (jobsD js) ∧
  ∀ H' : Hp, Same H H' → Q (.str (pageS n js)) H'
theorem numS_tl (n : Nat) : TL.tl (numS n) = TL.numL n := TL.tl_num n
theorem numS_len {n : Nat} (h : n ≤ 1000) : (numS n).length ≤ 4 := by
  rw [TL.len_tl, numS_tl]
  exact TL.numL_len (by decide) (show n < 10 ^ 4 by omega)
theorem rowS_len {j : Job} (ht : IsTag j.1) (hp : GoodPart 1000 j.2.1 j.2.2) : (rowS j).length ≤ 23 := by
  obtain ⟨h1, h2, h3, h4⟩ := hp
  have a := numS_len (n := j.2.1) (by omega)
  have b := numS_len (n := j.2.2) (by omega)
  have c := ht.2.1
  have e1 : (Str.ofString "work ").length = 5 := by decide
  have e2 : (Str.ofString " ").length = 1 := by decide
  have e3 : (Str.ofString "/").length = 1 := by decide
  unfold rowS
  rw [Str.length_append, Str.length_append, Str.length_append, Str.length_append, Str.length_append, e1, e2, e3]
  omega
theorem Good.mono {d d' : Nat} {js : List Job} (g : Good d js) (h : d ≤ d') : Good d' js :=
  ⟨g.nd, g.tag, fun j hj => let ⟨a, b, c, e⟩ := g.part j hj; ⟨a, b, Nat.le_trans c h, e⟩⟩
/-- what an element of the data looks like -/
theorem job_at {K : PySem.W.Frag} {H : Hp} {xs : List V} {js : List Job} (h : DpAll K H xs (js.map jobD)) {i : Nat} {x : V} (e : xs[i]? = some x) :
    ∃ (j : Job) (a q : Addr), js[i]? = some j ∧ x = .ref a ∧ SqT K H a [.str j.1, .ref q] ∧ SqT K H q [.int (j.2.1 : Int), .int (j.2.2 : Int)] := by
  obtain ⟨d, hd, hv⟩ := h.get e
  rw [List.getElem?_map] at hd
  cases ej : js[i]? with
  | none => rw [ej] at hd; cases hd
  | some j =>
    rw [ej] at hd
    have : jobD j = d := Option.some.inj hd
    subst this
    obtain ⟨a, ys, rfl, ha, hy⟩ := hv.tuple
    obtain ⟨v, u, rfl, h1, h2⟩ := hy.two
    obtain ⟨q, zs, rfl, hq, hz⟩ := h2.tuple
    obtain ⟨s, t, rfl, h3, h4⟩ := hz.two
    rw [h1.str_eq] at ha
    rw [h3.int_eq, h4.int_eq] at hq
    exact ⟨j, a, q, rfl, rfl, ha, hq⟩
theorem _root_.L2.DpAll.snoc {K : PySem.W.Frag} {H : Hp} {vs : List V} {ds : List PyData} {v : V} {d : PyData} (h : DpAll K H vs ds) (g : Dp K H v d) : DpAll K H (vs ++ [v]) (ds ++ [d]) := h.append (.cons g .nil)
theorem _root_.L2.Dp.job {K : PySem.W.Frag} {H : Hp} {a q : Addr} {j : Job} (h1 : H a = some (.tup [.str j.1, .ref q])) (h2 : H q = some (.tup [.int (j.2.1 : Int), .int (j.2.2 : Int)])) : Dp K H (.ref a) (jobD j) :=
  .tup (SqT.of h1) (.cons (.str _) (.cons (.tup (SqT.of h2) (.cons (.int _) (.cons (.int _) .nil))) .nil))
end Ts
namespace Ts
open PySem PySem.Spec PyProof.Rows L2
/-! ## tuple(what a dict gives) -/
section
variable {prog : Program} {w : World} {A : Around} {E : Value → Shared → Prop} {s : Shared} {T : String} {r d : Addr} {n : Nat} {C : Nat → Value → Prop} {OK : Heap → Prop}
theorem tuple_code {R : Value → Shared → Prop} (S : PySem.W.KdlSrc prog w T r d n C OK) (hh : A.handled = none) (ok : OK s.heap) (hn : n ≤ sizeLine)
    (h : ∀ (h' : Heap) (tk : Nat) (acc : Array Value), (∀ b o, s.heap.get? b = some o → h'.get? b = some o) → ItemsOf C acc n → R (.ref h'.objs.size) { s with heap := h'.push { cls := .type "tuple", data := .seq acc }, toks := tk }) :
    codeAny (model prog w) A (.call (.builtin "tuple.__new__") ⟨[.type "tuple", .ref r], []⟩) (wants R E) s := by
  refine codeAny_of_tree (show wpAny _ A.in1 (checkBuiltinCall "tuple.__new__" ⟨[.type "tuple", .ref r], []⟩ >>= fun _ => again (.builtin "tuple.__new__" ⟨[.type "tuple", .ref r], []⟩)) _ _ s from ?_)
  refine wpAny_bind (wpAny_of_eq (F.newCall_tuple_1 _) (wpAny_pure (And.intro (plainId_quiet F.plain_tuple_new _) (codeAny_builtin F.entry_tuple_new ?_))))
  rw [Around.under_plainId F.plain_tuple_new _]
  have e1 := sub_tuple_self
  have e2 := init_tuple_lookup
  have e3 := madeHere_tuple
  have tI := S.type s ok
  have n1 := S.notTuple
  have n2 := S.notList
  have hh1 : A.in1.handled = none := hh
  wp_walk using wpAny_typeOf tI, PySem.W.kdu_collect (A := A.in1) S hh1 ok hn
  intro h' tk acc hk hacc
  show wpAny _ _ ((Builtin.Tuple.tupleExact acc.toList.toArray).bind fun v => ret v) _ _ _
  unfold Builtin.Tuple.tupleExact
  have ea : acc.toList.toArray = acc := by simp
  refine wpAny_bind (wpAny_newObj_type (wpAny_pure ?_) (by rw [ea]; show acc.size ≤ sizeLine; rw [hacc.1]; exact hn))
  rw [ea]
  exact h h' tk acc hk hacc
theorem tuple_src {Q : Value → Shared → Prop} (S : PySem.W.KdlSrc prog w T r d n C OK) (hh : A.handled = none) (ok : OK s.heap) (hn : n ≤ sizeLine)
    (hQ : ∀ (h' : Heap) (tk : Nat) (acc : Array Value), (∀ b o, s.heap.get? b = some o → h'.get? b = some o) → ItemsOf C acc n → Q (.ref h'.objs.size) { s with heap := h'.push { cls := .type "tuple", data := .seq acc }, toks := tk }) :
    wpAny (model prog w) A (call (.type "tuple") [.ref r]) Q E s := by
  refine callType_codes (Q₁ := fun ob s1 => s1.TypeIs ob "tuple" ∧ Q ob s1) F.called_tuple (F.typeCall_tuple_1 _) F.entry_object_init
    (tuple_code (A := A.in1) S hh ok hn fun h' tk acc k1 k2 => And.intro ⟨_, Heap.get?_push_size _ rfl, rfl⟩ (hQ h' tk acc k1 k2)) fun ob s1 z => ?_
  exact And.intro z.1 (And.intro (F.args_object_init_2 ob _) (object_init_meets F.called_tuple.init.lookup F.called_tuple.made (by decide) prog w A.in1 _ s1 (And.intro z.1 (And.intro rfl z.2))))
end
section
variable {X : Cx} {p pos apos cpos : Pos} {e : Expr} {td : TE}
theorem call_tuple_dK (hc : X.calm = true) : CallR X (.type "tuple") (fun xs H Q => ∃ d kvs, xs = [.ref d] ∧ H d = some (.dK kvs) ∧ ∀ q ob, H q = none → ob.cls = .type "tuple" → ob.dict = none → Q (.ref q) (upd H q (.frz ob (.tup (kvs.map fun kv => kV kv.1))))) := by
  intro pins s σ H xs us Q I r h
  obtain ⟨d, kvs, rfl, hd, q⟩ := h
  obtain ⟨u, rfl, ru⟩ := vals1 r
  obtain rfl : u = Value.ref d := ru
  obtain ⟨z, lo, vs, rk, dd⟩ := (show ObjOk X.prog X.w H s.heap d (.dK kvs) from I.hok d _ hd)
  obtain ⟨ep, dat⟩ := dd.dictAt
  have hl : kvs.length = vs.length := Paired.length rk
  refine tuple_src (PySem.W.kdl_dict (knd := mixKind X.prog X.w) (kvs := vs) (ep := ep) lo) (I.ok.hd hc) dat (by omega) fun h' tk acc k1 k2 => ?_
  have J : Inv X pins σ H { s with heap := h', toks := tk } := I.kept k1
  have al : acc.toList.length = acc.size := by simp
  have rv : Vals (kvs.map fun kv => kV kv.1) acc.toList := by
    refine vals_of_at (by rw [List.length_map, al, k2.1, hl]) fun j x u h1 h2 => ?_
    obtain ⟨k, y, e1, e2⟩ := k2.2 j u (by rw [← Array.getElem?_toList]; exact h2)
    have e3 : (kvs.map (·.1))[j]? = some k := by rw [KV.keys rk, List.getElem?_map, e1]; rfl
    rw [List.getElem?_map] at e3 h1
    cases e4 : kvs[j]? with
    | none => rw [e4] at e3; cases e3
    | some kv =>
      rw [e4] at e3 h1
      have e5 : kv.1 = k := Option.some.inj e3
      have e6 : kV kv.1 = x := Option.some.inj h1
      rw [← e6, e5]
      exact keyIs_rel e2
  refine ⟨.ref h'.objs.size, upd H h'.objs.size (.frz { cls := .type "tuple", data := .seq acc } (.tup (kvs.map fun kv => kV kv.1))), J.laid (t' := tk) (fun b o z => Heap.get?_push_of_some _ z) (Nat.le_refl _) ⟨Heap.get?_push_size _ rfl, by rw [List.length_map]; exact z, acc.toList, rv, ?_⟩, rfl, q _ _ (J.hok.fresh (Nat.le_refl _)) rfl rfl⟩
  rw [Array.toArray_toList]
  exact ⟨_, Heap.get?_push_size _ rfl, rfl, _, rfl⟩
/-- tuple(e.values()) -/
def tTupVals (td : TE) : TE := fun σ H Q => td σ H fun x H1 => ∃ d kvs, x = .ref d ∧ H1 d = some (.dK kvs) ∧ ∀ q, H1 q = none → Q (.ref q) (upd H1 q (.tup (kvs.map (·.2))))
theorem pe_tupVals (hc : X.calm = true) (hg : Gl X "tuple") (hm : X.mg "tuple" = none) (he : PE X e td) (hbase : attributeBase e "values" X.env (eval e X.env) = eval e X.env := by rfl) (hline : (apos.endLine == cpos.line) = true := by rfl)
    (hse : starEach [Expr.Call (.Attribute e "values" apos) [] [] cpos] X.env = [(false, eval (Expr.Call (.Attribute e "values" apos) [] [] cpos) X.env)] := by rfl) :
    PE X (.Call (.Name "tuple" p) [.Call (.Attribute e "values" apos) [] [] cpos] [] pos) (tTupVals td) := by
  refine ⟨fun pins s σ H Q I h => ?_⟩
  refine Call_ (ld_blt I hg hm boot_tuple (PyProof.Rows.callWith_type1 (args_cons ?_ hse) hse))
  refine wpAny_Call_method0_late hbase hline (thn (he.run pins s σ H _ I h) fun v s1 ⟨x, H1, I1, r1, d, kvs, ex, hd, q⟩ => ?_)
  subst ex
  obtain rfl : v = Value.ref d := r1
  obtain ⟨z, hsys, vs, rel, dof⟩ := dk_of I1.hok hd
  obtain ⟨ep, dat⟩ := dof.dictAt
  obtain ⟨ob, es, ho, ex, hdat, hko, hpr, hnd⟩ := id dat
  refine ⟨"dict", "dict.values", F.plainAttrs_dict, F.slot_dict_values, F.type_dict_values, ⟨ob, ho, ex.1⟩, fun b e => ?_, Calls.callWith_builtin rfl (PySem.evalArgs_none ?_)⟩
  · cases e
    exact ⟨ob, ho, ex.2.1⟩
  refine call_meetsIn F.slot_dict_values ⟨ob, ho, ex.1⟩ F.entry_dict_values (F.args_dict_values_1 _) (meets_dict_values (mixKind X.prog X.w) d hsys) (And.intro ⟨vs, dof⟩ ?_)
  -- the view stands at the next address
  have I2 : Inv X pins σ H1 { s1 with heap := s1.heap.push { cls := .type "dict_values", data := .fields #[.ref d] } } := I1.kept (t' := s1.toks) fun b u z => Heap.get?_push_of_some _ z
  have dat2 : (s1.heap.push { cls := .type "dict_values", data := .fields #[.ref d] }).DictAt (mixKind X.prog X.w) d vs ep := dat.keep fun b u z => Heap.get?_push_of_some _ z
  have hl : kvs.length = vs.length := KV.length rel
  refine args_nil (tuple_src (PySem.W.kdl_values (knd := mixKind X.prog X.w) (kvs := vs) (ep := ep) (d := d) (r := s1.heap.objs.size)) (I.ok.hd hc) (And.intro ⟨_, Heap.get?_push_size _ rfl, rfl, rfl⟩ dat2) (by omega) fun h' tk acc k1 k2 => ?_)
  have J : Inv X pins σ H1 { s1 with heap := h', toks := tk } := I2.kept k1
  have al : acc.toList.length = acc.size := by simp
  have rv : Vals (kvs.map (·.2)) acc.toList := by
    refine vals_of_at (by rw [List.length_map, al, k2.1, hl]) fun j y u h1 h2 => ?_
    obtain ⟨k, e1⟩ := k2.2 j u (by rw [← Array.getElem?_toList]; exact h2)
    obtain ⟨y', e2, e3⟩ := KV.at' rel e1
    rw [List.getElem?_map, e2] at h1
    have e6 : y' = y := Option.some.inj h1
    rw [← e6]; exact e3
  refine ⟨.ref h'.objs.size, upd H1 h'.objs.size (.tup (kvs.map (·.2))), J.laid (t' := tk) (fun b o z => Heap.get?_push_of_some _ z) (Nat.le_refl _) ⟨by rw [List.length_map]; exact z, acc.toList, rv, ?_⟩, rfl, q _ (J.hok.fresh (Nat.le_refl _))⟩
  rw [Array.toArray_toList]
  exact ⟨_, Heap.get?_push_size _ rfl, rfl, _, rfl⟩
/-- all(a list of truths) -/
theorem call_allB (hc : X.calm = true) : CallR X (.builtin "all") (fun xs H Q => ∃ (a : Addr) (bs : List Bool), xs = [.ref a] ∧ SqL X.K H a (bs.map V.bl) ∧ Q (.bl (bs.all id)) H) := by
  intro pins s σ H xs us Q I r h
  obtain ⟨a, bs, rfl, hs, q⟩ := h
  obtain ⟨u, rfl, ru⟩ := vals1 r
  obtain rfl : u = Value.ref a := ru
  obtain ⟨its, rv, pl, hz⟩ := I.list hs
  have al : a < s.heap.objs.size := by obtain ⟨o, n, e, _⟩ := pl; exact Heap.lt_size e
  have len : its.length = bs.length := by rw [← rv.length, List.length_map]
  have W := Walks.list (prog := X.prog) (w := X.w) (A := X.A.in1) (I.ok.hd hc) s.heap.objs.size a (Nat.ne_of_lt al) its.toArray
  refine call_all_walk (wpAny_pyIter_list pl.isList ?_)
  refine ⟨s.heap.objs.size, _, _, its.toArray.size, _, _, fun i => bs.getD i true, rfl, W, (show Heap.IsListIter (s.heap.push _) s.heap.objs.size a 0 ∧ Heap.IsList (s.heap.push _) a its.toArray from And.intro ⟨_, Heap.get?_push_size _ rfl, rfl, rfl⟩ (pl.isList.push _)), ?_, fun h' tk hk => ?_⟩
  · intro i v s2 Q2 E2 hv hq
    have hv' : its[i]? = some v := by simpa using hv
    have hi : i < bs.length := by rw [← len]; exact (List.getElem?_eq_some_iff.mp hv').1
    obtain ⟨u2, e1, e2⟩ := rv.get (i := i) (x := V.bl bs[i]) (by rw [List.getElem?_map, List.getElem?_eq_getElem hi]; rfl)
    rw [hv'] at e1
    have e3 : v = u2 := Option.some.inj e1
    subst e3
    obtain rfl : v = Value.bool bs[i] := e2
    have e4 : bs.getD i true = bs[i] := by rw [List.getD_eq_getElem?_getD, List.getElem?_eq_getElem hi]; rfl
    have hq2 : Q2 (bs.getD i true) s2 := hq
    rw [e4] at hq2
    exact wpAny_truthy_bool hq2
  · have J : Inv X pins σ H { s with heap := h', toks := tk } := I.kept fun b o z => hk b o (fun m => absurd (Heap.lt_size z) (by rw [List.mem_singleton.mp m]; exact Nat.lt_irrefl _)) (Heap.get?_push_of_some _ z)
    refine ⟨.bl _, H, J, ?_, q⟩
    show Value.bool _ = Value.bool _
    congr 1
    have ls : its.toArray.size = bs.length := by simp [len]
    rw [ls, Bool.eq_iff_iff]
    simp only [List.all_eq_true, List.mem_range]
    constructor
    · intro z b hb
      obtain ⟨i, hi, e⟩ := List.mem_iff_getElem.mp hb
      have := z i hi
      rw [List.getD_eq_getElem?_getD, List.getElem?_eq_getElem hi] at this
      rw [← e]; exact this
    · intro z i hi
      rw [List.getD_eq_getElem?_getD, List.getElem?_eq_getElem hi]
      exact z _ (List.getElem_mem hi)
/-- first, *rest = a list that is not empty: rest is a new list -/
def gStar (K : PySem.W.Frag) (i j : Nat) : TG := fun v σ H Q => ∃ a x xs, v = .ref a ∧ SqL K H a (x :: xs) ∧ xs.length ≤ 16000 ∧ ∀ p, H p = none → Q ((σ.set i (some x)).set j (some (.ref p))) (upd H p (.lst xs))
theorem pg_star {i j : Nat} {x y : Str} {k : Nat} {px py ps tp : Pos} (hc : X.calm = true) (hN : X.N.Nodup) (hi : X.N[i]? = some x) (hj : X.N[j]? = some y) (hx : X.env.scope.names.lookup x = some .local) (hy : X.env.scope.names.lookup y = some .local)
    (he : assignEach [.Name x px, .Starred (.Name y py) ps] X.env = [(false, assign (.Name x px) X.env), (true, assign (.Name y py) X.env)] := by rfl) :
    PG X (.Tuple [.Name x px, .Starred (.Name y py) ps] k tp) (gStar X.K i j) := by
  refine ⟨fun pins s σ H v u Q I r hw => ?_⟩
  obtain ⟨a, z, zs, rfl, hs, hz, q⟩ := hw
  obtain rfl : u = Value.ref a := r
  obtain ⟨its, rv, pl, _⟩ := I.list hs
  cases rv with
  | @cons _ w1 _ ws r1 rr =>
    have wl : ws.length = zs.length := rr.length.symm
    have L : s.heap.IsList a (w1 :: ws).toArray := pl.isList
    have al : a < s.heap.objs.size := by obtain ⟨o, ho, _⟩ := L; exact Heap.lt_size ho
    rw [PyProof.Rows.assign_Tuple]
    refine wpAny_bind (wpAny_standAt ?_)
    unfold unpack
    rw [he]
    show wpAny _ _ (holding [Value.ref a] (unpackItems (.ref a) 2 (some 1)) >>= fun vs => assignInOrder [assign (.Name x px) X.env, assign (.Name y py) X.env] vs) _ _ s
    refine wpAny_bind (wpAny_holding ?_)
    unfold unpackItems
    refine wpAny_bind (show wpAny _ _ (notIterableAtAll (.ref a)) _ _ _ from ?_)
    unfold notIterableAtAll
    refine wpAny_bind (wpAny_specialOf L.typeIs slot_list_iter.lookup (wpAny_pure ?_))
    simp only [Bool.false_eq_true, if_false]
    refine wpAny_bind (wpAny_holding (wpAny_pyIter_list L (wpAny_bind (wpAny_holding ?_))))
    refine PySem.W.kun_draw (Nat.ne_of_lt al) 1 0 _ _ ⟨_, Heap.get?_push_size _ rfl, rfl, rfl⟩ (L.push _) (by simp) fun h1 t1 s1 => ?_
    have L1 : h1.IsList a (w1 :: ws).toArray := (L.push _).extBut s1.extBut (Nat.ne_of_lt al)
    have t1' : h1.IsListIter s.heap.objs.size a 1 := t1
    have l1 : s.heap.objs.size < h1.objs.size := by obtain ⟨o, ho, _⟩ := t1'; exact Heap.lt_size ho
    have l2 : a < h1.objs.size := by obtain ⟨o, ho, _⟩ := L1; exact Heap.lt_size ho
    have sz : (w1 :: ws).toArray.size = ws.length + 1 := by simp
    show wpAny _ _ (if ([w1] : List Value).length < 1 then _ else _) _ _ _
    rw [if_neg (show ¬ ([w1] : List Value).length < 1 from Nat.lt_irrefl 1)]
    have W := Walks.list (prog := X.prog) (w := X.w) (A := X.A.in1) (I.ok.hd hc) s.heap.objs.size a (Nat.ne_of_lt al) (w1 :: ws).toArray
    refine wpAny_bind (wpAny_holding (PySem.W.kun_collect (T := "list_iterator") (.inr (.inr (.inl rfl))) W (fun j u st => st.1.typeIs) (k := 1) (by rw [sz]; omega) (And.intro t1' L1) l1 l2 (fun h2 tk hk => ?_) (by rw [sz, sizeLine_eq]; omega)))
    have dr : (w1 :: ws).toArray.toList.drop 1 = ws := by simp
    rw [dr]
    show wpAny _ _ (if ws.length < 0 then _ else _) _ _ _
    rw [if_neg (Nat.not_lt_zero _)]
    show wpAny _ _ (newList (ws.take (ws.length - 0)) >>= fun d => pure ([w1] ++ [d] ++ ws.drop (ws.length - 0))) _ _ _
    rw [Nat.sub_zero, List.take_length, List.drop_length]
    have I1 : Inv X pins σ H { s with heap := h2, toks := tk } := I.kept fun b o e => hk b o (Nat.ne_of_lt (Heap.lt_size e)) (s1.extBut b o (Nat.ne_of_lt (Heap.lt_size e)) (Heap.get?_push_of_some _ e))
    refine wpAny_bind (show wpAny _ _ (newList ws) _ _ _ from wpAny_newObj_type (wpAny_pure ?_) (by show ws.toArray.size ≤ sizeLine; rw [List.size_toArray, sizeLine_eq]; omega))
    have hp := I1.hok.fresh (Nat.le_refl h2.objs.size)
    have I2 : Inv X pins σ (upd H h2.objs.size (.lst zs)) { s with heap := h2.push { cls := .type "list", data := .seq ws.toArray }, toks := tk } :=
      I1.laid (t' := tk) (fun b o e => Heap.get?_push_of_some _ e) (Nat.le_refl _) ⟨by rw [sizeLine_eq]; omega, ws, 0, rr, Heap.get?_push_size _ rfl⟩
    show wpAny _ _ (assignInOrder [assign (.Name x px) X.env, assign (.Name y py) X.env] [w1, Value.ref h2.objs.size]) _ _ _
    refine assignInOrder_cons (wpAny_assign_Name (store_ok I2 hN hi (.inl hx) r1 (fun s3 I3 => ?_) (.inr hx)))
    refine assignInOrder_cons (wpAny_assign_Name (store_ok (v := V.ref h2.objs.size) I3 hN hj (.inl hy) rfl (fun s4 I4 => assignInOrder_nil ⟨_, _, I4, q _ hp⟩) (.inr hy)))
end
end Ts
namespace Ts
open PySem PySem.Spec PyProof.Rows L2
/-! ## constants of the text -/
section
variable {X : Cx} {x y : Str} {i : Int} {pos : Pos}
theorem pe_gint (h : ∃ t, X.mg x = some (.int i t)) (hg : Gl X x := by rfl) (hd : (x == ("__debug__" : Str)) = false := by decide) : PE X (.Name x pos) (tC (.int i)) := by
  obtain ⟨t, h⟩ := h
  exact pe_glob hg h ⟨t, rfl⟩ hd
theorem pe_gstr (h : ∃ t, X.mg x = some (.str y t)) (hg : Gl X x := by rfl) (hd : (x == ("__debug__" : Str)) = false := by decide) : PE X (.Name x pos) (tC (.str y)) := by
  obtain ⟨t, h⟩ := h
  exact pe_glob hg h ⟨t, rfl⟩ hd
end
structure Cst (mg : Str → Option Value) : Prop where
  MOST_WORKS : ∃ t, mg "MOST_WORKS" = some (.int 6 t)
  MOST_HANDS : ∃ t, mg "MOST_HANDS" = some (.int 6 t)
  MOST_PERIOD : ∃ t, mg "MOST_PERIOD" = some (.int 16 t)
  LONGEST_NAME : ∃ t, mg "LONGEST_NAME" = some (.int 8 t)
  LETTERS : ∃ t, mg "LETTERS" = some (.str (Str.ofString "abcdefghijklmnopqrstuvwxyz") t)
/-! ## plain values -/
def spIsNumber : Sp := fun vs H Q _ => ∃ (v lo hi : Int), vs = [.int v, .int lo, .int hi] ∧ Q (.bl (decide (lo ≤ v ∧ v ≤ hi))) H
def spIsNumberFrom : Sp := fun vs H Q _ => ∃ (v lo : Int), vs = [.int v, .int lo] ∧ Q (.bl (decide (lo ≤ v))) H
def spIsName : Sp := fun vs H Q _ => ∃ (t : Str), vs = [.str t] ∧ IsTag t ∧ ∀ H', Same H H' → Q (.bl true) H'
def spIsShare : Sp := fun vs H Q _ => ∃ (q : Addr) (e p : Nat), vs = [.ref q] ∧ H q = some (.tup [.int (e : Int), .int (p : Int)]) ∧ GoodPart 16 e p ∧ Q (.bl true) H
/-! ## texts read -/
def spReadNumber : Sp := fun vs H Q _ => ∃ (n m : Nat), vs = [.str (numS n), .int m] ∧ 1 ≤ n ∧ n ≤ m ∧ m ≤ 1000 ∧ Q (.int n) H
def spReadHands : Sp := fun vs H Q _ => ∃ (n : Nat), vs = [.str (handsS n)] ∧ 1 ≤ n ∧ n ≤ 6 ∧ ∀ H', Same H H' → Q (.int n) H'
def spReadWork : Sp := fun vs H Q _ => ∃ (j : Job), vs = [.str (rowS j)] ∧ IsTag j.1 ∧ GoodPart 16 j.2.1 j.2.2 ∧
  ∀ (p q : Addr) H', Same H H' → H' p = some (.tup [.str j.1, .ref q]) → H' q = some (.tup [.int (j.2.1 : Int), .int (j.2.2 : Int)]) → Q (.ref p) H'
/-- a dict with the works' names and shares -/
def KvsOf (K : PySem.W.Frag) (H : Hp) (kvs : List (Key × V)) (js : List Job) : Prop := kvs.map (·.1) = js.map (fun j => (Sum.inr j.1 : Key)) ∧ DpAll K H (kvs.map (·.2)) (js.map fun j => partD j.2.1 j.2.2)
def spReadWorks (K : PySem.W.Frag) : Sp := fun vs H Q _ => ∃ (a : Addr) (js : List Job), vs = [.ref a] ∧ SqL K H a ((js.map rowS).map V.str) ∧ Good 16 js ∧ js.length ≤ 20 ∧
  ∀ (d : Addr) (kvs : List (Key × V)) (H' : Hp), Same H H' → H d = none → H' d = some (.dK kvs) → KvsOf K H' kvs js → Q (.ref d) H'
/-! ## totals -/
def spanN (js : List Job) : Nat := js.foldl (fun s j => Nat.lcm s j.2.2) 1
def partsN (js : List Job) (s : Nat) : Nat := (js.map fun j => j.2.1 * (s / j.2.2)).sum
def totTop (js : List Job) : Nat := partsN js (spanN js) / Nat.gcd (partsN js (spanN js)) (spanN js)
def totBot (js : List Job) : Nat := spanN js / Nat.gcd (partsN js (spanN js)) (spanN js)
def sharesD (js : List Job) : List PyData := js.map fun j => partD j.2.1 j.2.2
def namesD (js : List Job) : List PyData := js.map fun j => .str j.1
def spSpanOf (K : PySem.W.Frag) : Sp := fun vs H Q _ => ∃ (a : Addr) (xs : List V) (js : List Job), vs = [.ref a] ∧ SqT K H a xs ∧ DpAll K H xs (sharesD js) ∧ Good 16 js ∧ ∀ H', Same H H' → Q (.int (spanN js)) H'
def spTotalOf (K : PySem.W.Frag) : Sp := fun vs H Q _ => ∃ (a : Addr) (xs : List V) (js : List Job), vs = [.ref a, .int (spanN js)] ∧ SqT K H a xs ∧ DpAll K H xs (sharesD js) ∧ Good 16 js ∧ js.length ≤ 20 ∧
  ∀ (p : Addr) H', Same H H' → H p = none → H' p = some (.tup [.int (totTop js : Int), .int (totBot js : Int)]) → Q (.ref p) H'
theorem dvd_big {p : Nat} (h0 : 1 ≤ p) (h1 : p ≤ 16) : p ∣ 720720 := by
  have : ∀ q : Fin 17, 1 ≤ q.val → q.val ∣ 720720 := by decide +kernel
  exact this ⟨p, by omega⟩ h0
theorem span_dvd_go : ∀ (js : List Job) (s : Nat), s ∣ 720720 → (∀ j ∈ js, GoodPart 16 j.2.1 j.2.2) → js.foldl (fun s j => Nat.lcm s j.2.2) s ∣ 720720
  | [], s, h, _ => h
  | j :: js, s, h, g => by
    obtain ⟨a, b, c, _⟩ := g j List.mem_cons_self
    exact span_dvd_go js _ (Nat.lcm_dvd h (dvd_big (by omega) c)) fun k hk => g k (List.mem_cons_of_mem _ hk)
theorem span_dvd {js : List Job} (g : Good 16 js) : spanN js ∣ 720720 := span_dvd_go js 1 (Nat.one_dvd _) g.part
theorem span_pos {js : List Job} (g : Good 16 js) : 0 < spanN js := Nat.pos_of_dvd_of_pos (span_dvd g) (by decide)
theorem span_le {js : List Job} (g : Good 16 js) : spanN js ≤ 720720 := Nat.le_of_dvd (by decide) (span_dvd g)
theorem dvd_span_go : ∀ (js : List Job) (s : Nat), s ∣ js.foldl (fun s j => Nat.lcm s j.2.2) s ∧ ∀ j ∈ js, j.2.2 ∣ js.foldl (fun s j => Nat.lcm s j.2.2) s
  | [], s => ⟨Nat.dvd_refl _, by simp⟩
  | k :: js, s => by
    obtain ⟨h1, h2⟩ := dvd_span_go js (Nat.lcm s k.2.2)
    refine ⟨Nat.dvd_trans (Nat.dvd_lcm_left _ _) h1, fun j hj => ?_⟩
    rcases List.mem_cons.mp hj with rfl | hj
    · exact Nat.dvd_trans (Nat.dvd_lcm_right _ _) h1
    · exact h2 j hj
theorem dvd_span {js : List Job} {j : Job} (h : j ∈ js) : j.2.2 ∣ spanN js := (dvd_span_go js 1).2 j h
/-! ## a lot -/
def lotF (t : Str) (n : Int) (pn ps : Addr) (sp : Int) (pt : Addr) : List (Str × V) :=
  putF "_total" (.ref pt) (putF "_span" (.int sp) (putF "_shares" (.ref ps) (putF "_names" (.ref pn) (putF "_hands" (.int n) (putF "_text" (.str t) [])))))
/-- the names, in a tuple that has no dict -/
def NamesAt (H : Hp) (pn : Addr) (js : List Job) : Prop := ∃ ob : Obj, H pn = some (.frz ob (.tup (js.map fun j => V.str j.1))) ∧ ob.cls = .type "tuple" ∧ ob.dict = none
theorem NamesAt.mono {H H' : Hp} {pn : Addr} {js : List Job} (h : NamesAt H pn js) (s : Same H H') : NamesAt H' pn js := by
  obtain ⟨ob, h1, h2⟩ := h
  exact ⟨ob, s _ _ h1, h2⟩
theorem names_strs (js : List Job) : (js.map fun j => V.str j.1) = (js.map (·.1)).map V.str := by rw [List.map_map]; rfl
theorem NamesAt.seq {K : PySem.W.Frag} {H : Hp} {pn : Addr} {js : List Job} (h : NamesAt H pn js) : SqT K H pn ((js.map (·.1)).map V.str) := by
  obtain ⟨ob, h1, h2⟩ := h
  rw [names_strs] at h1
  exact .inl (.inr ⟨ob, h1⟩)
theorem NamesAt.dp {K : PySem.W.Frag} {H : Hp} {pn : Addr} {js : List Job} (h : NamesAt H pn js) : Dp K H (.ref pn) (.tuple (namesD js)) := by
  have ew : namesD js = (js.map (·.1)).map PyData.str := by unfold namesD; rw [List.map_map]; rfl
  rw [ew]
  exact .tup h.seq (DpAll.strs _)
structure LotAt (K : PySem.W.Frag) (C : Addr) (H : Hp) (a : Addr) (n : Nat) (js : List Job) : Prop where
  ex : ∃ dx pn ps pt, H a = some (.ins C dx (lotF (pageS n js) n pn ps (spanN js) pt)) ∧ NamesAt H pn js ∧ Dp K H (.ref ps) (.tuple (sharesD js)) ∧ Dp K H (.ref pt) (partD (totTop js) (totBot js))
theorem LotAt.mono {K : PySem.W.Frag} {C : Addr} {H H' : Hp} {a : Addr} {n : Nat} {js : List Job} (L : LotAt K C H a n js) (s : Same H H') : LotAt K C H' a n js := by
  obtain ⟨dx, pn, ps, pt, h1, h2, h3, h4⟩ := L.ex
  exact ⟨dx, pn, ps, pt, s _ _ h1, h2.mono s, h3.mono s, h4.mono s⟩
def spInit (K : PySem.W.Frag) (C : Addr) : Sp := fun vs H Q _ => ∃ (a dx : Addr) (n : Nat) (js : List Job), vs = [.ref a, .str (pageS n js)] ∧ H a = some (.ins C dx []) ∧ 1 ≤ n ∧ n ≤ 6 ∧ Good 16 js ∧ 0 < js.length ∧ js.length ≤ 6 ∧
  ∀ H', But a H H' → LotAt K C H' a n js → Q .non H'
/-! ## texts read back -/
theorem num_okI {z : Int} (h0 : 0 ≤ z) (h : z ≤ 1000) : z.natAbs.log2 < 1920 := by
  by_cases e : z.natAbs = 0
  · rw [e]; decide
  · exact Nat.lt_trans ((Nat.log2_lt e).mpr (show z.natAbs < 2 ^ 10 by omega)) (by decide)
theorem numS_inj {m n : Nat} (h : numS m = numS n) : m = n := by
  refine TL.numL_inj ?_
  rw [← numS_tl, ← numS_tl, h]
theorem numS_free {n s : Nat} (h : s < 48 ∨ 57 < s) : s ∉ TL.tl (numS n) := by
  rw [numS_tl]; exact TL.numL_free h
theorem sp_tl : TL.tl (Str.ofString " ") = [32] := by decide
theorem nl_tl : TL.tl nlS = [10] := by decide
theorem sl_tl : TL.tl (Str.ofString "/") = [47] := by decide
theorem tag_free {t : Str} (h : IsTag t) {s : Nat} (hs : s < 97) : s ∉ TL.tl t := fun m => by
  have := h.2.2 s m
  omega
theorem join_two (y a b : Str) : Txt.join y [a, b] = a ++ y ++ b := by
  rw [TL.join_eq]; rfl
theorem join_three (y a b c : Str) : Txt.join y [a, b, c] = a ++ y ++ (b ++ y ++ c) := by
  rw [TL.join_eq]; rfl
theorem hands_eq (n : Nat) : handsS n = Txt.join (Str.ofString " ") [Str.ofString "hands", numS n] := by
  rw [join_two]
  refine TL.ext_tl ?_
  unfold handsS
  rw [TL.tl_append, TL.tl_append, TL.tl_append]
  have e : TL.tl (Str.ofString "hands ") = TL.tl (Str.ofString "hands") ++ TL.tl (Str.ofString " ") := by decide
  rw [e]
theorem row_eq (j : Job) : rowS j = Txt.join (Str.ofString " ") [Str.ofString "work", j.1, Txt.join (Str.ofString "/") [numS j.2.1, numS j.2.2]] := by
  rw [join_three, join_two]
  refine TL.ext_tl ?_
  unfold rowS
  simp only [TL.tl_append, List.append_assoc]
  have e : TL.tl (Str.ofString "work ") = TL.tl (Str.ofString "work") ++ TL.tl (Str.ofString " ") := by decide
  rw [e, List.append_assoc]
theorem hands_split (n : Nat) : Txt.split (handsS n) (Str.ofString " ") = [Str.ofString "hands", numS n] := by
  rw [hands_eq]
  refine TL.split_join sp_tl (by decide +kernel) (by simp) fun p hp => ?_
  simp only [List.mem_cons, List.not_mem_nil, or_false] at hp
  rcases hp with rfl | rfl
  · decide
  · exact numS_free (by decide)
theorem part_split (e p : Nat) : Txt.split (Txt.join (Str.ofString "/") [numS e, numS p]) (Str.ofString "/") = [numS e, numS p] := by
  refine TL.split_join sl_tl (by decide +kernel) (by simp) fun q hq => ?_
  simp only [List.mem_cons, List.not_mem_nil, or_false] at hq
  rcases hq with rfl | rfl
  · exact numS_free (by decide)
  · exact numS_free (by decide)
theorem row_split {j : Job} (h : IsTag j.1) : Txt.split (rowS j) (Str.ofString " ") = [Str.ofString "work", j.1, Txt.join (Str.ofString "/") [numS j.2.1, numS j.2.2]] := by
  rw [row_eq]
  refine TL.split_join sp_tl (by decide +kernel) (by simp) fun q hq => ?_
  simp only [List.mem_cons, List.not_mem_nil, or_false] at hq
  rcases hq with rfl | rfl | rfl
  · decide
  · exact tag_free h (by decide)
  · rw [join_two, TL.tl_append, TL.tl_append]
    simp only [List.mem_append, not_or]
    exact ⟨⟨numS_free (by decide), by decide⟩, numS_free (by decide)⟩
theorem page_split {n : Nat} {js : List Job} (h : ∀ j ∈ js, IsTag j.1) : Txt.split (pageS n js) nlS = rowsOf n js := by
  unfold pageS
  refine TL.split_join nl_tl (by decide +kernel) (by unfold rowsOf; simp) fun q hq => ?_
  rcases List.mem_cons.mp hq with rfl | hq
  · unfold handsS
    rw [TL.tl_append]
    simp only [List.mem_append, not_or]
    exact ⟨by decide, numS_free (by decide)⟩
  · obtain ⟨j, hj, rfl⟩ := List.mem_map.mp hq
    unfold rowS
    simp only [TL.tl_append, List.mem_append, not_or]
    exact ⟨⟨⟨⟨⟨by decide, tag_free (h j hj) (by decide)⟩, by decide⟩, numS_free (by decide)⟩, by decide⟩, numS_free (by decide)⟩
/-! ## the class -/
theorem lot_text {t : Str} {n sp : Int} {pn ps pt : Addr} : (lotF t n pn ps sp pt).lookup ("_text" : Str) = some (.str t) := by
  unfold lotF; repeat (first | rw [lookup_putF, if_pos rfl] | rw [lookup_putF, if_neg (by decide +kernel)])
theorem lot_hands {t : Str} {n sp : Int} {pn ps pt : Addr} : (lotF t n pn ps sp pt).lookup ("_hands" : Str) = some (.int n) := by
  unfold lotF; repeat (first | rw [lookup_putF, if_pos rfl] | rw [lookup_putF, if_neg (by decide +kernel)])
theorem lot_names {t : Str} {n sp : Int} {pn ps pt : Addr} : (lotF t n pn ps sp pt).lookup ("_names" : Str) = some (.ref pn) := by
  unfold lotF; repeat (first | rw [lookup_putF, if_pos rfl] | rw [lookup_putF, if_neg (by decide +kernel)])
theorem lot_shares {t : Str} {n sp : Int} {pn ps pt : Addr} : (lotF t n pn ps sp pt).lookup ("_shares" : Str) = some (.ref ps) := by
  unfold lotF; repeat (first | rw [lookup_putF, if_pos rfl] | rw [lookup_putF, if_neg (by decide +kernel)])
theorem lot_span {t : Str} {n sp : Int} {pn ps pt : Addr} : (lotF t n pn ps sp pt).lookup ("_span" : Str) = some (.int sp) := by
  unfold lotF; repeat (first | rw [lookup_putF, if_pos rfl] | rw [lookup_putF, if_neg (by decide +kernel)])
theorem putF_len (f : Str) (v : V) : ∀ fs : List (Str × V), (putF f v fs).length ≤ fs.length + 1
  | [] => Nat.le_refl _
  | (g, u) :: r => by
    unfold putF
    split
    · exact Nat.le_succ _
    · exact Nat.succ_le_succ (putF_len f v r)
/-- what the written part tells of the class at C -/
structure LotC (K : PySem.W.Frag) (mg : Str → Option Value) (C : Addr) : Prop where
  cl : Cls K C
  n1 : NoAttr K C "_text"
  n2 : NoAttr K C "_hands"
  n3 : NoAttr K C "_names"
  n4 : NoAttr K C "_shares"
  n5 : NoAttr K C "_span"
  n6 : NoAttr K C "_total"
  mgC : mg "Lot" = some (.ref C)
theorem joinL_len (S : List Nat) : ∀ ps : List (List Nat), (TL.joinL S ps).length ≤ (ps.map (·.length)).sum + ps.length * S.length
  | [] => Nat.zero_le _
  | [p] => by
    show p.length ≤ (p.length + 0) + 1 * S.length
    omega
  | p :: q :: r => by
    have ih := joinL_len S (q :: r)
    show (p ++ (S ++ TL.joinL S (q :: r))).length ≤ (p.length + ((q :: r).map (·.length)).sum) + ((q :: r).length + 1) * S.length
    rw [List.length_append, List.length_append, Nat.add_mul]
    omega
theorem rows_sum {js : List Job} (h : ∀ j ∈ js, (rowS j).length ≤ 23) : ((js.map rowS).map (·.length)).sum ≤ 23 * js.length := by
  induction js with
  | nil => exact Nat.le_refl _
  | cons j js ih =>
    have h1 := h j List.mem_cons_self
    have h2 := ih fun y hy => h y (List.mem_cons_of_mem _ hy)
    show (rowS j).length + ((js.map rowS).map (·.length)).sum ≤ 23 * (js.length + 1)
    omega
theorem page_len {n : Nat} {js : List Job} (hn : n ≤ 1000) (G : Good 1000 js) (hl : js.length ≤ 20) : (pageS n js).length + 2 ≤ 1000 := by
  unfold pageS
  rw [TL.join_eq, TL.len_tl, TL.tl_join, nl_tl]
  have a := joinL_len [10] ((rowsOf n js).map TL.tl)
  have e : ((rowsOf n js).map TL.tl).map (·.length) = (rowsOf n js).map (·.length) := by
    rw [List.map_map]
    exact List.map_congr_left fun x _ => (TL.len_tl x).symm
  rw [e] at a
  have b := rows_sum fun j hj => rowS_len (G.tag j hj) (G.part j hj)
  have c : (handsS n).length ≤ 10 := by
    have l6 : (Str.ofString "hands ").length = 6 := by decide
    have := numS_len hn
    unfold handsS; rw [Str.length_append, l6]; omega
  have d : ((rowsOf n js).map (·.length)).sum = (handsS n).length + ((js.map rowS).map (·.length)).sum := rfl
  have f : ((rowsOf n js).map TL.tl).length = js.length + 1 := by unfold rowsOf; rw [List.length_map, List.length_cons, List.length_map]
  rw [d, f] at a
  simp only [List.length_cons, List.length_nil] at a
  omega
end Ts
namespace Ts
open PySem PySem.Spec PyProof.Rows L2
/-! ## properties, objects made, names given -/
section
variable (P : Program) (w : World) (K : PySem.W.Frag) (mg : Str → Option Value) (base : Heap)
/-- the class at C gives under the name x what stands in the field fld -/
structure PropH (C : Addr) (x fld : Str) : Prop where
  ex : ∃ p g fd, PropOf K C x p g ∧ FnOk P w K mg base CX0 1 g fd ["self"] (getSp C fld) ∧ Binds K fd ["self"] []
/-- an own class by the promise of its __init__ -/
structure HasM (k : Nat) (C : Addr) (ps : List Str) (sp : Sp) : Prop where
  ex : ∃ f fd, Mk K C f ∧ FnOk P w K mg base CX0 k f fd ps sp ∧ Binds K fd ps []
end
section
variable {X : Cx} {k : Nat} {x fld : Str} {C : Addr} {ps : List Str} {sp : Sp} {p pos : Pos} {e : Expr} {es : List Expr} {kws : List Keyword} {t tk : TA} {ta : TE}
theorem pe_ph (h : PropH X.prog X.w X.K X.mg X.base C x fld) (c : Cls X.K C) (hr : Room 2 X.A) (he : PE X e ta) (hab : attributeBase e x X.env (eval e X.env) = eval e X.env := by rfl) :
    PE X (.Attribute e x pos) (tProp C (getSp C fld) [] E0 ta) := by
  obtain ⟨p, g, fd, hp, F, hb⟩ := h.ex
  exact pe_prop he c hp F hr hb .nil pass0 hab
theorem pe_hm (h : HasM X.prog X.w X.K X.mg X.base k C ps sp) (hm : X.mg x = some (.ref C)) (hr : Room (k + 1) X.A) (ha : PA X (e :: es) t) (hg : Gl X x := by rfl) (hdb : (x == ("__debug__" : Str)) = false := by decide)
    (he : starEach (e :: es) X.env = (false, eval e X.env) :: starEach es X.env := by rfl) (hpl : (backTo pos (starEach es X.env)).any (·.1) = false := by rfl) :
    PE X (.Call (.Name x p) (e :: es) [] pos) (tMake C sp [] E0 t) := by
  obtain ⟨f, fd, M, F, hb⟩ := h.ex
  exact pe_make M F hr hg hm hb .nil pass0 ha hdb he hpl
end
/-! ## lots -/
/-- what isinstance asks of the class -/
structure LotI (K : PySem.W.Frag) (C : Addr) : Prop where
  ha : PySem.W.findIn K (.ref C) "__class__" = some (some (.builtin "object.__class__"))
  hn : PySem.W.specialIn K (.builtin "object.__class__") "__get__" = some (some (.builtin "getset_descriptor.__get__"))
  htk : PySem.W.takesIn K (.builtin "object.__class__") = some true
  hm : PySem.W.mroIn K C (.type "object") = some true
theorem kit_self {K : PySem.W.Frag} {C : Addr} : PySem.W.kitOne K (.ref C) (.ref C) = some true := by
  unfold PySem.W.kitOne
  rw [if_pos (by simp)]
theorem pe_gref {X : Cx} {x : Str} {C : Addr} {pos : Pos} (h : X.mg x = some (.ref C)) (hg : Gl X x := by rfl) (hd : (x == ("__debug__" : Str)) = false := by decide) : PE X (.Name x pos) (tC (.ref C)) :=
  pe_glob (v := V.ref C) hg h rfl hd
theorem bot_le {js : List Job} (g : Good 16 js) : totBot js ≤ 720720 := Nat.le_trans (Nat.div_le_self _ _) (span_le g)
/-- a property's reading at a lot -/
theorem lot_get {C a : Addr} {H : Hp} {fld : Str} {dx : Addr} {fs : List (Str × V)} {v : V} {Q : VK} (h : H a = some (.ins C dx fs)) (l : fs.lookup fld = some v) (q : Q v H) :
    ∃ a' dx fs, V.ref a = .ref a' ∧ H a' = some (.ins C dx fs) ∧ getSp C fld [.ref a'] H Q E0 :=
  ⟨a, dx, fs, rfl, h, a, dx, fs, v, rfl, h, l, q⟩
end Ts
namespace Ts
open PySem PySem.Spec PyProof.Rows L2
def spCheck (C : Addr) : Sp := fun vs H Q _ => ∃ (a dx : Addr) (fs : List (Str × V)), vs = [.ref a] ∧ H a = some (.ins C dx fs) ∧ Q .non H
end Ts
namespace Ts
open PySem PySem.Spec PyProof.Rows L2
/-! ## what the laws reckon -/
theorem span_step {js : List Job} {i : Nat} {j : Job} (h : js[i]? = some j) : spanN (js.take (i + 1)) = Nat.lcm (spanN (js.take i)) j.2.2 := by
  unfold spanN
  rw [List.take_add_one, h, List.foldl_append]; rfl
theorem Good.take {d i : Nat} {js : List Job} (G : Good d js) : Good d (js.take i) :=
  ⟨by rw [List.map_take]; exact G.nd.sublist (List.take_sublist _ _), fun k hk => G.tag k (List.mem_of_mem_take hk), fun k hk => G.part k (List.mem_of_mem_take hk)⟩
/-- the sum in parts of a great common bottom -/
def bigN (js : List Job) : Nat := (js.map fun j => j.2.1 * (720720 / j.2.2)).sum
theorem big_parts {js : List Job} (G : Good 16 js) : bigN js = partsN js (spanN js) * (720720 / spanN js) := by
  have key : ∀ l : List Job, (∀ j ∈ l, j ∈ js) → (l.map fun j => j.2.1 * (720720 / j.2.2)).sum = (l.map fun j => j.2.1 * (spanN js / j.2.2)).sum * (720720 / spanN js) := by
    intro l
    induction l with
    | nil => intro _; simp
    | cons j l ih =>
      intro h
      have hj := h j List.mem_cons_self
      obtain ⟨a, b, c, _⟩ := G.part j hj
      have d1 := dvd_span hj
      have d2 := span_dvd G
      rw [List.map_cons, List.map_cons, List.sum_cons, List.sum_cons, ih fun x hx => h x (List.mem_cons_of_mem _ hx), Nat.add_mul, Nat.mul_assoc]
      congr 2
      obtain ⟨u, hu⟩ := d1
      obtain ⟨v, hv⟩ := d2
      have hp : 0 < j.2.2 := by omega
      have hs : 0 < spanN js := span_pos G
      have e1 : spanN js / j.2.2 = u := by rw [hu, Nat.mul_div_cancel_left _ hp]
      have e2 : 720720 / spanN js = v := by rw [hv, Nat.mul_div_cancel_left _ hs]
      have e3 : 720720 / j.2.2 = u * v := by
        rw [hv, hu, Nat.mul_assoc, Nat.mul_div_cancel_left _ hp]
      rw [e1, e2, e3]
  exact key js fun _ h => h
theorem big_low {js : List Job} (G : Good 16 js) : bigN js / Nat.gcd (bigN js) 720720 = totTop js ∧ 720720 / Nat.gcd (bigN js) 720720 = totBot js := by
  have d2 := span_dvd G
  have hs := span_pos G
  have hk : 0 < 720720 / spanN js := Nat.div_pos (span_le G) hs
  have eN : 720720 = spanN js * (720720 / spanN js) := (Nat.mul_div_cancel' d2).symm
  have e := big_parts G
  have eg : Nat.gcd (bigN js) 720720 = Nat.gcd (partsN js (spanN js)) (spanN js) * (720720 / spanN js) := by
    rw [e]
    conv => lhs; rhs; rw [eN]
    exact Nat.gcd_mul_right _ _ _
  rw [eg]
  refine ⟨?_, ?_⟩
  · rw [e]; exact Nat.mul_div_mul_right _ _ hk
  · conv => lhs; lhs; rw [eN]
    exact Nat.mul_div_mul_right _ _ hk
theorem big_le {js : List Job} (G : Good 16 js) (hl : js.length ≤ 6) : bigN js ≤ 6 * 720720 := by
  have key : ∀ l : List Job, (∀ j ∈ l, j ∈ js) → (l.map fun j => j.2.1 * (720720 / j.2.2)).sum ≤ l.length * 720720 := by
    intro l
    induction l with
    | nil => intro _; exact Nat.le_refl _
    | cons j l ih =>
      intro h
      obtain ⟨a, b, c, _⟩ := G.part j (h j List.mem_cons_self)
      have h1 := ih fun x hx => h x (List.mem_cons_of_mem _ hx)
      have h2 : j.2.1 * (720720 / j.2.2) ≤ 720720 := Nat.le_trans (Nat.mul_le_mul_right _ b) (Nat.mul_div_le _ _)
      rw [List.map_cons, List.sum_cons, List.length_cons]
      omega
  exact Nat.le_trans (key js fun _ h => h) (Nat.mul_le_mul_right _ hl)
theorem top_le {js : List Job} (G : Good 16 js) (hl : js.length ≤ 6) : totTop js ≤ 6 * 720720 := by
  rw [← (big_low G).1]
  exact Nat.le_trans (Nat.div_le_self _ _) (big_le G hl)
/-! ## going up to the least common one -/
theorem step_up {s p x : Nat} (hs : 0 < s) (hp : 0 < p) (h : ∃ m, x = s * m) (hx : x ≤ Nat.lcm s p) (hx0 : 0 < x) (c : x % p ≠ 0) : (∃ m, x + s = s * m) ∧ x + s ≤ Nat.lcm s p := by
  obtain ⟨m, rfl⟩ := h
  refine ⟨⟨m + 1, by rw [Nat.mul_add, Nat.mul_one]⟩, ?_⟩
  obtain ⟨u, hu⟩ := Nat.dvd_lcm_left s p
  have hne : m ≠ u := fun e => c (by
    rw [e, ← hu]
    exact Nat.mod_eq_zero_of_dvd (Nat.dvd_lcm_right s p))
  rw [hu] at hx ⊢
  have hmu : m ≤ u := Nat.le_of_mul_le_mul_left hx hs
  have : m + 1 ≤ u := by omega
  have := Nat.mul_le_mul_left s this
  rw [Nat.mul_add, Nat.mul_one] at this
  exact this
theorem step_end {s p x : Nat} (hs : 0 < s) (h : ∃ m, x = s * m) (hx : x ≤ Nat.lcm s p) (hx0 : 0 < x) (c : x % p = 0) : x = Nat.lcm s p := by
  obtain ⟨m, e⟩ := h
  have h1 : Nat.lcm s p ∣ x := Nat.lcm_dvd ⟨m, e⟩ (Nat.dvd_of_mod_eq_zero c)
  exact Nat.le_antisymm hx (Nat.le_of_dvd hx0 h1)
def spCycle (K : PySem.W.Frag) : Sp := fun vs H Q _ => ∃ (p : Addr) (js : List Job), vs = [.ref p] ∧ Dp K H (.ref p) (jobsD js) ∧ Good 16 js ∧ ∀ H', Same H H' → Q (.int (spanN js)) H'
/-! ## how long a text is -/
theorem shown_int {n : Nat} (h : n < 10 ^ 10) : (PyData.int (n : Int)).shown.length ≤ 10 := by
  show (numS n).length ≤ 10
  rw [TL.len_tl, numS_tl]
  exact TL.numL_len (by decide) h
theorem show_int {n : Nat} (h : n < 10 ^ 10) : (PyData.int (n : Int)).showable = true := by
  show decide (((n : Nat) : Int).natAbs.log2 < 1920) = true
  refine decide_eq_true ?_
  have e : ((n : Nat) : Int).natAbs = n := by simp
  rw [e]
  by_cases z : n = 0
  · subst z; decide
  · exact Nat.lt_trans ((Nat.log2_lt z).mpr (show n < 2 ^ 40 from Nat.lt_trans h (by decide))) (by decide)
/-! ## what does not divide -/
theorem hu100 {A : Around} {k : Nat} (hr : Room k A) : A.units + 100 < cLine := by have := hr.un; omega
theorem hu64 {A : Around} {k : Nat} (hr : Room k A) : A.units + 64 < cLine := by have := hr.un; omega
end Ts
namespace Ts
open PySem PySem.Spec PyProof.Rows L2
/-! ## the law is called, no repr around -/
/-- of the heap nothing is told but the script -/
def tells (yes : Bool) (a : Addr) (vs : List Value) (ns : List Int) : Hp := fun c =>
  if c = a then (if yes = true then some (.frz { cls := .type "list", data := .seq vs.toArray } (.lst (ns.map V.int))) else none) else none
theorem tells_at {yes : Bool} {a : Addr} {vs : List Value} {ns : List Int} {c : Addr} {u : HO} (h : tells yes a vs ns c = some u) :
    c = a ∧ yes = true ∧ u = .frz { cls := .type "list", data := .seq vs.toArray } (.lst (ns.map V.int)) := by
  unfold tells at h
  split at h
  · split at h
    · exact ⟨by assumption, by assumption, (Option.some.inj h).symm⟩
    · cases h
  · cases h
end Ts
namespace Ts
open PySem PySem.Spec PyProof.Rows L2
/-! ## what the top has left -/
theorem prop_mk {P : Program} {w : World} {K : PySem.W.Frag} {mg : Str → Option Value} {base : Heap} {x qual fld : Str} {st : Stmt} {C p g : Addr} {fd : FuncData} {p1 p2 p3 : Pos} (F : Fun K x qual st g fd) (S : FnScope ["self"] ["self"] (defScope st))
    (body : defBody st = [.Return (some (.Attribute (.Name "self" p1) fld p2)) p3]) (c : Cls K C) (n : NoAttr K C fld) (pp : PropOf K C x p g)
    (hb : ∀ (kV doc pm : Value) (an : Option Addr) (cdv ct : Value) (us : List Value), us.length = 1 → bindArgs (PySem.W.fnOf x qual (defArgs st) (defBody st) (defScope st) .none kV doc pm an cdv ct) ⟨us, []⟩ = pure ((["self"] : List Str).zip us)) :
    PropH P w K mg base C x fld := by
  have bb := F.binds (ps := ["self"]) hb
  obtain ⟨oc, od, kV, doc, pm, an, cdv, ct, osl, rfl, lk, hcd⟩ := F.ex
  exact ⟨p, g, _, pp, fn_getter (k := 0) lk hcd S rfl body c n, bb⟩
end Ts
namespace Ts
open PySem PySem.Spec PyProof.Rows L2
/-! ## turns -/
def spOkNumber : Sp := fun vs H Q _ => ∃ (v lo hi : Int), vs = [.int v, .int lo, .int hi] ∧ lo ≤ v ∧ v ≤ hi ∧ Q .non H
def spOkMoment : Sp := fun vs H Q _ => ∃ (v : Int), vs = [.int v] ∧ 0 ≤ v ∧ v ≤ 10 ^ 30 ∧ Q .non H
def spQUp : Sp := fun vs H Q _ => ∃ (a b : Int), vs = [.int a, .int b] ∧ 0 < b ∧ b < 2 ^ 30 ∧ Q (.int ((a + b - 1) / b)) H
/-- the two numbers of a share -/
theorem part_at {K : PySem.W.Frag} {H : Hp} {v : V} {e p : Nat} (h : Dp K H v (partD e p)) : ∃ a, v = .ref a ∧ SqT K H a [.int (e : Int), .int (p : Int)] := by
  obtain ⟨a, xs, rfl, hS, hA⟩ := h.tuple
  obtain ⟨v, u, rfl, g1, g2⟩ := hA.two
  cases g1.int_eq
  cases g2.int_eq
  exact ⟨a, rfl, hS⟩
end Ts
namespace Ts
open PySem PySem.Spec PyProof.Rows L2
/-! ## names given in another order -/
/-- from behind -/
def back {α : Type} (l : List α) : List α := l.reverse
theorem vals_back : ∀ {vs : List V} {us : List Value}, Vals vs us → Vals (back vs) (back us)
  | _, _, .nil => .nil
  | _, _, .cons r h => by
    unfold back
    rw [List.reverse_cons, List.reverse_cons]
    exact (vals_back h).append (.cons r .nil)
end Ts
namespace Ts
open PySem PySem.Spec PyProof.Rows L2
/-! ## ticks of a turn -/
theorem div_le_iff {a t : Int} {e : Nat} (he : 0 < e) : a / (e : Int) ≤ t ↔ a < (t + 1) * e := by
  constructor
  · intro h
    exact Int.lt_of_lt_of_le (Int.lt_ediv_add_one_mul_self a (by omega)) (Int.mul_le_mul_of_nonneg_right (by omega) (by omega))
  · intro h
    have := Int.ediv_lt_of_lt_mul (show (0 : Int) < e by omega) h
    omega
theorem lt_up_iff {a t : Int} {e : Nat} (he : 0 < e) : t < (a + e - 1) / (e : Int) ↔ t * e < a := by
  have h := div_le_iff (a := a + e - 1) (t := t) he
  rw [Int.add_mul, Int.one_mul] at h
  constructor
  · intro q
    have : ¬ (a + e - 1) / (e : Int) ≤ t := by omega
    rw [h] at this
    omega
  · intro q
    have : ¬ (a + e - 1) / (e : Int) ≤ t := by rw [h]; omega
    omega
/-- the list as far as it has come -/
theorem rg_snoc {a b : Int} (h : a ≤ b) : rgV a (b + 1) = rgV a b ++ [V.int b] := by
  unfold rgV
  have e : (b + 1 - a).toNat = (b - a).toNat + 1 := by omega
  rw [e, List.range_succ, List.map_append]
  have e2 : a + ((b - a).toNat : Nat) = b := by omega
  show _ ++ [V.int (a + ((b - a).toNat : Nat))] = _
  rw [e2]
theorem rg_nil {a b : Int} (h : b ≤ a) : rgV a b = [] := by
  unfold rgV
  have e : (b - a).toNat = 0 := by omega
  rw [e]; rfl
/-! ## what the law's own look answers -/
/-! ## lists of ints as data -/
/-! ## texts of lists of ints and truths -/
theorem int_small {i : Int} (h0 : 0 ≤ i) (h1 : i < 10000000000) : (PyData.int i).showable = true ∧ (PyData.int i).shown.length ≤ 10 := by
  obtain ⟨n, rfl⟩ := Int.eq_ofNat_of_zero_le h0
  have hn : n < 10 ^ 10 := by omega
  exact ⟨show_int hn, shown_int hn⟩
/-! ## what a basin's change leaves -/
theorem seqT_hide {K : PySem.W.Frag} {H : Hp} {a b : Addr} {l xs : List V} (hb : H b = some (.lst l)) (h : SqT K H a xs) : SqT K (hid b H) a xs := by
  have ne : ∀ u, H a = some u → u ≠ HO.lst l → a ≠ b := fun u e d z => by rw [z, hb] at e; exact d (Option.some.inj e).symm
  rcases h with (h | ⟨ob, h⟩) | h
  · exact .inl (.inl ((hid_ne (ne _ h fun z => nomatch z)).trans h))
  · exact .inl (.inr ⟨ob, (hid_ne (ne _ h fun z => nomatch z)).trans h⟩)
  · exact .inr h
theorem part_hide {K : PySem.W.Frag} {H : Hp} {b : Addr} {l : List V} {v : V} {e p : Nat} (hb : H b = some (.lst l)) (h : Dp K H v (partD e p)) : Dp K (hid b H) v (partD e p) := by
  obtain ⟨a, rfl, hS⟩ := part_at h
  exact .tup (seqT_hide hb hS) (.cons (.int _) (.cons (.int _) .nil))
theorem shares_hide {K : PySem.W.Frag} {H : Hp} {b : Addr} {l : List V} (hb : H b = some (.lst l)) : ∀ {js : List Job} {vs : List V}, DpAll K H vs (sharesD js) → DpAll K (hid b H) vs (sharesD js)
  | [], _, .nil => .nil
  | j :: js, _, .cons h t => .cons (part_hide hb h) (shares_hide (js := js) hb t)
theorem LotAt.hide {K : PySem.W.Frag} {C : Addr} {H : Hp} {a b : Addr} {l : List V} {n : Nat} {js : List Job} (hb : H b = some (.lst l)) (L : LotAt K C H a n js) : LotAt K C (hid b H) a n js := by
  obtain ⟨dx, pn, ps, pt, h1, ⟨ob, h2, h5⟩, h3, h4⟩ := L.ex
  have ne : ∀ {c : Addr} {u : HO}, H c = some u → u ≠ HO.lst l → c ≠ b := fun {c u} e d z => by rw [z, hb] at e; exact d (Option.some.inj e).symm
  obtain ⟨ps', xs, e, hS, hA⟩ := h3.tuple
  cases e
  refine ⟨dx, pn, ps, pt, ?_, ⟨ob, ?_, h5⟩, .tup (seqT_hide hb hS) (shares_hide hb hA), part_hide hb h4⟩
  · rw [hid_ne (ne h1 fun z => nomatch z)]; exact h1
  · rw [hid_ne (ne h2 fun z => nomatch z)]; exact h2
end Ts
namespace Ts
open PySem PySem.Spec PyProof.Rows L2
/-! ## turns up to a moment -/
def lowI (e p : Nat) (t : Int) : Int := t * e / p
def highI (e p : Nat) (t : Int) : Int := (t * e + p - 1) / p
def spOfT (K : PySem.W.Frag) : Sp := fun vs H Q _ => ∃ (v : V) (e p : Nat) (t : Int), vs = [v, .int t] ∧ Dp K H v (partD e p) ∧ GoodPart 16 e p ∧ ∀ (r : Addr) (H' : Hp), H r = none → Same H H' → H' r = some (.tup [.int (lowI e p t), .int (highI e p t)]) → Q (.ref r) H'
theorem low_range {e p : Nat} {t : Int} (he : 0 < e) (hp : e ≤ p) (ht : 0 ≤ t) : 0 ≤ lowI e p t ∧ lowI e p t ≤ t := by
  unfold lowI
  refine ⟨Int.ediv_nonneg (Int.mul_nonneg ht (by omega)) (by omega), ?_⟩
  have h1 : t * (e : Int) ≤ t * p := Int.mul_le_mul_of_nonneg_left (by omega) ht
  exact Int.le_trans (Int.ediv_le_ediv (by omega) h1) (by rw [Int.mul_ediv_cancel _ (by omega)]; omega)
theorem high_range {e p : Nat} {t : Int} (he : 0 < e) (hp : e ≤ p) (ht : 0 ≤ t) : lowI e p t ≤ highI e p t ∧ highI e p t ≤ lowI e p t + 1 ∧ highI e p t ≤ t := by
  have hp0 : 0 < p := by omega
  have a : lowI e p t ≤ highI e p t := Int.ediv_le_ediv (by omega) (by omega)
  have b : highI e p t ≤ lowI e p t + 1 := by
    unfold highI lowI
    have h := Int.ediv_le_ediv (show (0 : Int) < p by omega) (show t * (e : Int) + p - 1 ≤ t * e + p by omega)
    have h2 : (t * (e : Int) + p) / (p : Int) = t * e / p + 1 := Int.add_ediv_of_dvd_right (Int.dvd_refl _) |>.trans (by rw [Int.ediv_self (by omega)])
    omega
  refine ⟨a, b, ?_⟩
  have h := lt_up_iff (a := t * e) (t := t) hp0
  have h3 : t * (e : Int) ≤ t * p := Int.mul_le_mul_of_nonneg_left (by omega) ht
  unfold highI
  have : ¬ t < (t * e + p - 1) / (p : Int) := by rw [h]; omega
  omega
/-! ## counting turn by turn -/
/-! ## texts of pairs of greater numbers -/
theorem int_big {i : Int} (h0 : 0 ≤ i) (h1 : i < 10 ^ 40) : (PyData.int i).showable = true ∧ (PyData.int i).shown.length ≤ 40 := by
  obtain ⟨n, rfl⟩ := Int.eq_ofNat_of_zero_le h0
  have hn : n < 10 ^ 40 := by
    have : ((n : Nat) : Int) < ((10 ^ 40 : Nat) : Int) := by rw [Int.natCast_pow]; exact h1
    exact Int.ofNat_lt.mp this
  refine ⟨?_, ?_⟩
  · show decide (((n : Nat) : Int).natAbs.log2 < 1920) = true
    refine decide_eq_true ?_
    have e : ((n : Nat) : Int).natAbs = n := by simp
    rw [e]
    by_cases z : n = 0
    · subst z; decide
    · exact Nat.lt_trans ((Nat.log2_lt z).mpr (show n < 2 ^ 140 from Nat.lt_trans hn (by decide +kernel))) (by decide)
  · show (numS n).length ≤ 40
    rw [TL.len_tl, numS_tl]
    exact TL.numL_len (by decide) hn
end Ts
namespace Ts
open PySem PySem.Spec PyProof.Rows L2
/-! ## own objects: str(x), repr(x), x == y -/
/-- the class at C has the special m as the def whose promise is sp -/
structure HasS (P : Program) (w : World) (K : PySem.W.Frag) (mg : Str → Option Value) (base : Heap) (k : Nat) (C : Addr) (m : Str) (ps : List Str) (sp : Sp) : Prop where
  ex : ∃ f fd, PySem.W.findIn K (.ref C) m = some (some (.ref f)) ∧ PySem.W.isFn K (.ref f) = true ∧ FnOk P w K mg base CX0 k f fd ps sp ∧ Binds K fd ps []
end Ts
namespace Ts
open PySem PySem.Spec PyProof.Rows L2
/-! ## what a lot shows, as data -/
def Plain (x : Str) : Prop := ∀ c ∈ TL.tl x, c < 128
theorem plain_app {x y : Str} (h : Plain x) (g : Plain y) : Plain (x ++ y) := fun c hc => by
  rw [TL.tl_append] at hc
  exact (List.mem_append.mp hc).elim (h c) (g c)
theorem plain_num (n : Nat) : Plain (numS n) := fun c hc => by
  by_cases z : c < 128
  · exact z
  · exact absurd hc (numS_free (by omega))
theorem plain_tag {t : Str} (h : IsTag t) : Plain t := fun c hc => by
  have := h.2.2 c hc
  omega
theorem mem_joinL {S : List Nat} {c : Nat} : ∀ {ps : List (List Nat)}, c ∈ TL.joinL S ps → c ∈ S ∨ ∃ p ∈ ps, c ∈ p
  | [], h => nomatch h
  | [p], h => .inr ⟨p, List.mem_cons_self, h⟩
  | p :: q :: r, h => by
    have h : c ∈ p ++ (S ++ TL.joinL S (q :: r)) := h
    rcases List.mem_append.mp h with h | h
    · exact .inr ⟨p, List.mem_cons_self, h⟩
    · rcases List.mem_append.mp h with h | h
      · exact .inl h
      · rcases mem_joinL h with h | ⟨u, hu, h⟩
        · exact .inl h
        · exact .inr ⟨u, List.mem_cons_of_mem _ hu, h⟩
theorem plain_row {j : Job} (h : IsTag j.1) : Plain (rowS j) := by
  unfold rowS
  exact plain_app (plain_app (plain_app (plain_app (plain_app (fun c hc => by revert c; decide) (plain_tag h)) (fun c hc => by revert c; decide)) (plain_num _)) (fun c hc => by revert c; decide)) (plain_num _)
theorem plain_hands (n : Nat) : Plain (handsS n) := by
  unfold handsS
  exact plain_app (fun c hc => by revert c; decide) (plain_num _)
theorem plain_page {d n : Nat} {js : List Job} (G : Good d js) : Plain (pageS n js) := fun c hc => by
  unfold pageS at hc
  rw [TL.join_eq, TL.tl_join, nl_tl] at hc
  rcases mem_joinL hc with h | ⟨u, hu, h⟩
  · rw [List.mem_singleton.mp h]; decide
  · obtain ⟨x, hx, rfl⟩ := List.mem_map.mp hu
    unfold rowsOf at hx
    rcases List.mem_cons.mp hx with rfl | hx
    · exact plain_hands n c h
    · obtain ⟨j, hj, rfl⟩ := List.mem_map.mp hx
      exact plain_row (G.tag j hj) c h
def reprS (m n : Nat) : Str := Str.ofString "Lot of " ++ numS m ++ Str.ofString " works, " ++ numS n ++ Str.ofString " hands"
theorem plain_repr (m n : Nat) : Plain (reprS m n) := by
  unfold reprS
  exact plain_app (plain_app (plain_app (plain_app (fun c hc => by revert c; decide) (plain_num _)) (fun c hc => by revert c; decide)) (plain_num _)) (fun c hc => by revert c; decide)
def shownD (n : Nat) (js : List Job) : PyData := .list [.str (pageS n js), .int n, .tuple (namesD js), .tuple (sharesD js), partD (totTop js) (totBot js), .int (spanN js : Int), .str (pageS n js), .bool true, .str (reprS js.length n)]
theorem short_str {x : Str} (h : Plain x) : PyData.leavesShort 13 (.str x) = true := by
  show (x.cps.toList.all fun c => decide (c < 16 ^ 8)) = true
  rw [List.all_eq_true]
  intro c hc
  have := h c hc
  exact decide_eq_true (by omega)
theorem short_int {i : Int} (h0 : 0 ≤ i) (h1 : i < 10000000000) : PyData.leavesShort 13 (.int i) = true := decide_eq_true (Nat.le_trans (int_small h0 h1).2 (by decide))
theorem weight_int {i : Int} (h0 : 0 ≤ i) (h1 : i < 10000000000) : PyData.weight (.int i) ≤ 100 := by
  show (if i == 0 then 0 else i.natAbs.log2 + 1) ≤ 100
  split
  · omega
  · by_cases z : i.natAbs = 0
    · rw [z]; decide
    · have := (Nat.log2_lt z).mpr (show i.natAbs < 2 ^ 40 by omega)
      omega
/-- data that a repr can write -/
structure Nice (w e : Nat) (d : PyData) : Prop where
  sh : d.showable = true
  lv : d.leavesShort 13 = true
  wt : d.weight ≤ w
  dp : d.depth ≤ e
  nd : d.hasDict = false
structure NiceAll (w e : Nat) (ds : List PyData) : Prop where
  sh : PyData.showableAll ds = true
  lv : PyData.leavesShortAll 13 ds = true
  wt : PyData.weightAll ds ≤ w
  dp : PyData.depthAll ds ≤ e
  nd : PyData.hasDictAll ds = false
theorem NiceAll.nil {w e : Nat} : NiceAll w e [] := ⟨rfl, rfl, Nat.zero_le _, Nat.zero_le _, rfl⟩
theorem NiceAll.cons {w w' e : Nat} {d : PyData} {ds : List PyData} (h : Nice w e d) (g : NiceAll w' e ds) : NiceAll (w + 1 + w') e (d :: ds) := by
  refine ⟨?_, ?_, ?_, ?_, ?_⟩
  · show (d.showable && PyData.showableAll ds) = true
    rw [h.sh, g.sh]; rfl
  · show (d.leavesShort 13 && PyData.leavesShortAll 13 ds) = true
    rw [h.lv, g.lv]; rfl
  · have h1 := h.wt
    have h2 := g.wt
    show d.weight + 1 + PyData.weightAll ds ≤ w + 1 + w'
    omega
  · have h1 := h.dp
    have h2 := g.dp
    show max d.depth (PyData.depthAll ds) ≤ e
    omega
  · show (d.hasDict || PyData.hasDictAll ds) = false
    rw [h.nd, g.nd]; rfl
theorem NiceAll.tup {w e : Nat} {ds : List PyData} (g : NiceAll w e ds) : Nice w (e + 1) (.tuple ds) := ⟨g.sh, g.lv, g.wt, Nat.succ_le_succ g.dp, g.nd⟩
theorem NiceAll.lst {w e : Nat} {ds : List PyData} (g : NiceAll w e ds) : Nice w (e + 1) (.list ds) := ⟨g.sh, g.lv, g.wt, Nat.succ_le_succ g.dp, g.nd⟩
theorem Nice.mono {w w' e e' : Nat} {d : PyData} (h : Nice w e d) (h1 : w ≤ w') (h2 : e ≤ e') : Nice w' e' d := ⟨h.sh, h.lv, Nat.le_trans h.wt h1, Nat.le_trans h.dp h2, h.nd⟩
theorem nice_str {w e : Nat} {x : Str} (h : Plain x) (hw : x.length ≤ w) : Nice w e (.str x) := ⟨rfl, short_str h, hw, Nat.zero_le _, rfl⟩
theorem nice_int {e : Nat} {i : Int} (h0 : 0 ≤ i) (h1 : i < 10000000000) : Nice 100 e (.int i) := ⟨(int_small h0 h1).1, short_int h0 h1, weight_int h0 h1, Nat.zero_le _, rfl⟩
theorem nice_bool {e : Nat} {b : Bool} : Nice 0 e (.bool b) := ⟨rfl, rfl, Nat.le_refl _, Nat.zero_le _, rfl⟩
theorem nice_part {e p : Nat} (h1 : e < 10000000000) (h2 : p < 10000000000) : Nice 202 1 (partD e p) :=
  (NiceAll.tup (NiceAll.cons (nice_int (e := 0) (by omega) (by omega)) (NiceAll.cons (nice_int (e := 0) (by omega) (by omega)) (NiceAll.nil (w := 0))))).mono (by decide) (by decide)
theorem nice_names : ∀ {js : List Job}, (∀ j ∈ js, IsTag j.1) → NiceAll (9 * js.length) 0 (namesD js)
  | [], _ => NiceAll.nil
  | j :: js, h => by
    have hj := h j List.mem_cons_self
    have g := NiceAll.cons (nice_str (w := 8) (e := 0) (plain_tag hj) hj.2.1) (nice_names (js := js) fun x hx => h x (List.mem_cons_of_mem _ hx))
    exact ⟨g.sh, g.lv, Nat.le_trans g.wt (by rw [List.length_cons]; omega), g.dp, g.nd⟩
theorem nice_shares : ∀ {js : List Job}, (∀ j ∈ js, GoodPart 16 j.2.1 j.2.2) → NiceAll (203 * js.length) 1 (sharesD js)
  | [], _ => NiceAll.nil
  | j :: js, h => by
    obtain ⟨p1, p2, p3, _⟩ := h j List.mem_cons_self
    have g := NiceAll.cons (nice_part (e := j.2.1) (p := j.2.2) (by omega) (by omega)) (nice_shares (js := js) fun x hx => h x (List.mem_cons_of_mem _ hx))
    exact ⟨g.sh, g.lv, Nat.le_trans g.wt (by rw [List.length_cons]; omega), g.dp, g.nd⟩
theorem Nice.fits {w e : Nat} {d : PyData} (h : Nice w e d) (h1 : w ≤ 1000000) (h2 : e < 60) : d.showable = true ∧ d.hasDict = false ∧ d.depth < 60 ∧ d.shown.length ≤ sizeLine :=
  ⟨h.sh, h.nd, Nat.lt_of_le_of_lt h.dp h2, PyData.shown_fits (by decide) (by decide) h.lv (Nat.le_trans h.wt (Nat.le_trans h1 (by decide)))⟩
theorem shown_fits {n : Nat} {js : List Job} (G : Good 16 js) (hl : js.length ≤ 6) (hn : n ≤ 6) : (shownD n js).showable = true ∧ (shownD n js).hasDict = false ∧ (shownD n js).depth < 60 ∧ (shownD n js).shown.length ≤ sizeLine := by
  have lp : (pageS n js).length ≤ 1000 := by
    have := page_len (n := n) (by omega) (G.mono (show 16 ≤ 1000 by decide)) (by omega)
    omega
  have lr : (reprS js.length n).length ≤ 1000 := by
    have l1 : (Str.ofString "Lot of ").length = 7 := by decide
    have l2 : (Str.ofString " works, ").length = 8 := by decide
    have l3 : (Str.ofString " hands").length = 6 := by decide
    have l5 := numS_len (n := js.length) (by omega)
    have l6 := numS_len (n := n) (by omega)
    unfold reprS
    rw [Str.length_append, Str.length_append, Str.length_append, Str.length_append, l1, l2, l3]
    omega
  have t1 := top_le G hl
  have t2 := bot_le G
  have t3 := span_le G
  have ns := (nice_names G.tag).tup.mono (show 9 * js.length ≤ 1000 by omega) (show 0 + 1 ≤ 2 by decide)
  have ss := (nice_shares G.part).tup.mono (show 203 * js.length ≤ 2000 by omega) (show 1 + 1 ≤ 2 by decide)
  have page := nice_str (e := 2) (plain_page (n := n) G) lp
  have pr := (nice_part (e := totTop js) (p := totBot js) (by omega) (by omega)).mono (Nat.le_refl _) (show 1 ≤ 2 by decide)
  have all := NiceAll.lst (NiceAll.cons page (NiceAll.cons (nice_int (i := (n : Int)) (by omega) (by omega)) (NiceAll.cons ns (NiceAll.cons ss (NiceAll.cons pr (NiceAll.cons (nice_int (i := (spanN js : Int)) (by omega) (by omega)) (NiceAll.cons page (NiceAll.cons (nice_bool (b := true)) (NiceAll.cons (nice_str (plain_repr _ _) lr) (NiceAll.nil (w := 0)))))))))))
  exact all.fits (by decide) (by decide)
end Ts
namespace Ts
open PySem PySem.Spec PyProof.Rows L2
def spRepr (K : PySem.W.Frag) (C : Addr) : Sp := fun vs H Q _ => ∃ (a : Addr) (n : Nat) (js : List Job), vs = [.ref a] ∧ LotAt K C H a n js ∧ n ≤ 1000 ∧ js.length ≤ 20 ∧ Q (.str (reprS js.length n)) H
end Ts
namespace Ts
open PySem PySem.Spec PyProof.Rows L2
/-! ## works bent a little -/
/-! ## a page tells its works -/
/-! ## pairs of hands and works, as data -/
/-! ## lists cut and joined -/
theorem cut_to {xs : List V} {i : Nat} (h : i ≤ xs.length) : cutV xs none (some (i : Int)) = xs.take i := by
  unfold cutV
  rw [HT.sIx_none, HT.sIx_nat, List.drop_zero, Nat.min_eq_left h, Nat.sub_zero]
theorem cut_from {xs : List V} {i : Nat} (h : i ≤ xs.length) : cutV xs (some (i : Int)) none = xs.drop i := by
  unfold cutV
  rw [HT.sIx_none, HT.sIx_nat, Nat.min_eq_left h, List.take_of_length_le (by rw [List.length_drop]; omega)]
theorem dp_take {K : PySem.W.Frag} {H : Hp} : ∀ {xs : List V} {ds : List PyData} (i : Nat), DpAll K H xs ds → DpAll K H (xs.take i) (ds.take i)
  | _, _, 0, _ => by rw [List.take_zero, List.take_zero]; exact .nil
  | _, _, _ + 1, .nil => .nil
  | _, _, i + 1, .cons h t => .cons h (dp_take i t)
/-! ## two cells out of sight; cells that are new -/
def hd (c b : Addr) (H : Hp) : Hp := hid c (hid b H)
theorem hd_ne {a c b : Addr} {H : Hp} (h : a ≠ c) (g : a ≠ b) : hd c b H a = H a := (hid_ne h).trans (hid_ne g)
theorem hd_some {a c b : Addr} {H : Hp} {o : HO} (h : hd c b H a = some o) : a ≠ c ∧ a ≠ b ∧ H a = some o := by
  obtain ⟨n, h⟩ := hid_some h
  obtain ⟨m, h⟩ := hid_some h
  exact ⟨n, m, h⟩
theorem But.hd {c b : Addr} {H H' : Hp} (x : But b H H') : Same (Ts.hd c b H) (Ts.hd c b H') := fun a o h => by
  obtain ⟨n, m, h⟩ := hd_some h
  rw [hd_ne n m]; exact x a o m h
end Ts
namespace Ts
open PySem PySem.Spec PyProof.Rows L2
/-! ## methods by their promises -/
structure HasD (P : Program) (w : World) (K : PySem.W.Frag) (mg : Str → Option Value) (base : Heap) (k : Nat) (C : Addr) (m : Str) (ps : List Str) (sp : Sp) : Prop where
  ex : ∃ f fd, Meth K C m f ∧ FnOk P w K mg base CX0 k f fd ps sp ∧ Binds K fd ps []
theorem hasD_mk {P : Program} {w : World} {K : PySem.W.Frag} {mg : Str → Option Value} {base : Heap} {x qual : Str} {st : Stmt} {C f : Addr} {fd : FuncData} {k : Nat} {ps : List Str} {sp : Sp} (F : Fun K x qual st f fd) (M : Meth K C x f) (ok : FnOk P w K mg base CX0 k f fd ps sp)
    (hb : ∀ (kV doc pm : Value) (an : Option Addr) (cdv ct : Value) (us : List Value), us.length = ps.length → bindArgs (PySem.W.fnOf x qual (defArgs st) (defBody st) (defScope st) .none kV doc pm an cdv ct) ⟨us, []⟩ = pure (ps.zip us)) : HasD P w K mg base k C x ps sp :=
  ⟨f, fd, M, ok, F.binds hb⟩
section
variable {X : Cx} {k : Nat} {C : Addr} {m : Str} {ps ks : List Str} {sp : Sp} {turned : {α : Type} → List α → List α} {o e : Expr} {es : List Expr} {kws : List Keyword} {apos pos : Pos} {ta : TE} {t tk : TA}
theorem pe_hd {pl : Sem Bool} (h : HasD X.prog X.w X.K X.mg X.base k C m ps sp) (c : Cls X.K C) (hr : Room k X.A) (he : PE X o ta) (ha : PA X (e :: es) t)
    (hst : starEach (e :: es) X.env = (false, eval e X.env) :: starEach es X.env := by rfl) (hpl : (backTo pos (starEach es X.env)).any (·.1) = false := by rfl)
    (ht : eval (.Call (.Attribute o m apos) (e :: es) [] pos) X.env = (do
      let ov ← eval o X.env
      standAt apos.atName
      let (g, ahead) ← holding [ov] (getMethod ov m pl)
      callWith pos g ahead (backTo pos (starEach (e :: es) X.env)) (backToKw pos (keywordEach [] X.env))) := by rfl) :
    PE X (.Call (.Attribute o m apos) (e :: es) [] pos) (tMeth C m sp [] E0 ta t) := by
  obtain ⟨f, fd, M, F, b⟩ := h.ex
  exact pe_meth he c M F hr b .nil pass0 ha hst hpl ht
end
/-! ## dict(zip(t, u)) of two tuples -/
end Ts
namespace Ts
open PySem PySem.Spec PyProof.Rows L2
/-! ## a promise that says less -/
theorem Has.imp {P : Program} {w : World} {K : PySem.W.Frag} {mg : Str → Option Value} {base : Heap} {k : Nat} {x : Str} {ps : List Str} {sp sp' : Sp} (A : Has P w K mg base k x ps sp) (h : ∀ vs H Q E, sp' vs H Q E → sp vs H Q E) : Has P w K mg base k x ps sp' := by
  obtain ⟨f, fd, F, hm, hk, hb⟩ := A.ex
  exact ⟨f, fd, F.imp h, hm, hk, hb⟩
/-! ## a work put among others -/
def setJ (js : List Job) (j : Job) : List Job := if j.1 ∈ js.map (·.1) then js.map (fun x => if x.1 = j.1 then j else x) else js ++ [j]
theorem setJ_names (js : List Job) (j : Job) : (setJ js j).map (·.1) = if j.1 ∈ js.map (·.1) then js.map (·.1) else js.map (·.1) ++ [j.1] := by
  unfold setJ
  split
  · rw [List.map_map]
    refine List.map_congr_left fun x _ => ?_
    show (if x.1 = j.1 then j else x).1 = x.1
    split
    · rename_i h; exact h.symm
    · rfl
  · rw [List.map_append]; rfl
theorem setJ_mem {js : List Job} {j x : Job} (h : x ∈ setJ js j) : x = j ∨ x ∈ js := by
  unfold setJ at h
  split at h
  · obtain ⟨y, hy, e⟩ := List.mem_map.mp h
    split at e
    · exact .inl e.symm
    · exact .inr (e ▸ hy)
  · rcases List.mem_append.mp h with h | h
    · exact .inr h
    · exact .inl (List.mem_singleton.mp h)
theorem Good.set {d : Nat} {js : List Job} {j : Job} (G : Good d js) (ht : IsTag j.1) (hp : GoodPart d j.2.1 j.2.2) : Good d (setJ js j) := by
  refine ⟨?_, fun x hx => ?_, fun x hx => ?_⟩
  · rw [setJ_names]
    split
    · exact G.nd
    · rename_i h
      rw [List.nodup_append]
      refine ⟨G.nd, by simp, fun a ha b hb e => h ?_⟩
      rw [← List.mem_singleton.mp hb, ← e]; exact ha
  · rcases setJ_mem hx with h | h
    · rw [h]; exact ht
    · exact G.tag x h
  · rcases setJ_mem hx with h | h
    · rw [h]; exact hp
    · exact G.part x h
/-! ## dicts of works -/
theorem KvsOf.mono {K : PySem.W.Frag} {H H' : Hp} {kvs : List (Key × V)} {js : List Job} (h : KvsOf K H kvs js) (s : Same H H') : KvsOf K H' kvs js := ⟨h.1, h.2.mono s⟩
theorem KvsOf.length {K : PySem.W.Frag} {H : Hp} {kvs : List (Key × V)} {js : List Job} (h : KvsOf K H kvs js) : kvs.length = js.length := by
  have := congrArg List.length h.1
  rw [List.length_map, List.length_map] at this; exact this
/-! ## promises -/
end Ts
namespace Ts
open PySem PySem.Spec PyProof.Rows L2
/-! ## often wanted -/
theorem Bas.on {b : Addr} {H H' : Hp} (h : Bas H b) (s : Same H H') : Bas H' b := by
  obtain ⟨x, y, z, e⟩ := h
  exact ⟨x, y, z, s _ _ e⟩
theorem Bas.off {b p : Addr} {H : Hp} (h : Bas H b) (hp : H p = none) : p ≠ b := by
  obtain ⟨x, y, z, e⟩ := h
  exact (ne_of_none e hp).symm
theorem But.trans' {b : Addr} {H H1 H2 : Hp} (x : But b H H1) (s : Same H1 H2) : But b H H2 := x.trans (But.of_same s)
theorem hid_put {b : Addr} {H : Hp} {o : HO} : Same (hid b H) (hid b (upd H b o)) := fun a u e => by
  obtain ⟨n, e⟩ := hid_some e
  rw [hid_ne n, upd_ne n]; exact e
theorem hid_same {b : Addr} {H H' : Hp} (s : Same H H') : Same (hid b H) (hid b H') := (But.of_same s : But b H H').hid
/-- behind the making of a lot -/
theorem lot_same {x dx : Addr} {o u : HO} {H H' : Hp} (b : But x (upd (upd H dx u) x o) H') (hx : H x = none) (hdx : H dx = none) : Same H H' :=
  fun a v e => b a v (ne_of_none e hx) (by rw [upd_ne (ne_of_none e hx), upd_ne (ne_of_none e hdx)]; exact e)
section
variable {K : PySem.W.Frag} {mg : Str → Option Value} {C : Addr} {H : Hp} {Q : VK} {x y : Addr} {m n : Nat} {js ks : List Job}
theorem LotAt.kind (T : LotC K mg C) (I : LotI K C) (L : LotAt K C H x n js) : TyX K H (.ref x) (.ref C) := by
  obtain ⟨dx, pn, ps, pt, ha, _⟩ := L.ex
  exact .base (.ins ha T.cl I.ha I.hn I.htk I.hm)
end
/-! ## a work put back as it was -/
/-! ## pairs of a list, as a dict -/
end Ts
namespace Ts
open PySem PySem.Spec PyProof.Rows L2
/-! ## rows of numbers sorted, of any lengths, as many as there are -/
section
variable {prog : Program} {w : World} {A : Around} {E : Value → Shared → Prop} {s : Shared}
theorem rows_lex {Q : Bool → Shared → Prop} {b fin : Bool} {us vs : List Value} {ns ms : List Int} (i : Nat) (hu : IntsAre us ns) (hv : IntsAre vs ms) (hf : fin = decide (ns.length < ms.length)) (h : Q (HT.lexLt ns ms) s) :
    PySem.W.KatLex prog w A b fin Q (us.zip vs) i s := by
  induction hu generalizing vs ms i with
  | nil =>
    cases hv with
    | nil => rw [HT.lexLt_nil_nil] at h; rw [hf]; exact PySem.W.kat_nil h
    | cons q t hv => rw [HT.lexLt_nil_cons] at h; rw [hf, decide_eq_true (by simp)]; exact PySem.W.kat_nil h
  | @cons p t us ns hu ih =>
    cases hv with
    | nil => rw [HT.lexLt_cons_nil] at h; rw [hf, decide_eq_false (by simp)]; exact PySem.W.kat_nil h
    | @cons q t2 vs ms hv =>
      have hf2 : fin = decide (ns.length < ms.length) := by rw [hf]; simp
      show PySem.W.KatLex prog w A b fin Q ((Value.int p t, Value.int q t2) :: us.zip vs) i s
      rw [HT.lexLt_cons] at h
      refine PySem.W.kat_cons (wpAny_eqBool_int ?_)
      by_cases e : p = q
      · rw [if_pos e] at h
        rw [e, beq_self_eq_true]
        refine PySem.W.kat_yes ?_
        first | exact ih (i + 1) hv hf2 h | exact ih hf2 (i + 1) hv h | exact ih _ _ (i + 1) hv hf2 h
      · rw [if_neg e] at h
        rw [beq_eq_false_iff_ne.mpr e]
        exact PySem.W.kat_no (TS.oneLt_ints _ h)
def ltL {α : Type} (k : α → List Int) (x y : α) : Bool := HT.lexLt (k x) (k y)
theorem rows_cmp {vs : List Value} {k : Value → List Int} (hp : ∀ v ∈ vs, TS.TupInts s.heap v (k v)) : SrtO.Cmp prog w A s (tuples' true) (fun p => p.1 ∈ vs) (SrtO.lt2 (ltL k)) := by
  intro p q h1 h2
  have r1 := hp _ h1
  have r2 := hp _ h2
  show wpAny (model prog w) A (keyLt' (tuples' true) p.1 q.1) (fun r s' => s' = s ∧ r = HT.lexLt (k p.1) (k q.1)) (fun _ _ => False) s
  generalize k p.1 = ns at r1 ⊢
  generalize k q.1 = ms at r2 ⊢
  obtain ⟨a, xs, e1, ⟨o, ho, hc, n, hd⟩, i1⟩ := r1
  obtain ⟨b, ys, e2, ⟨o2, ho2, hc2, n2, hd2⟩, i2⟩ := r2
  rw [e1, e2]
  refine PySem.W.kat_lt ho hd ho2 hd2 (rows_lex 0 i1 i2 ?_ ⟨rfl, rfl⟩)
  have l1 := i1.length
  have l2 := i2.length
  rw [Array.length_toList] at l1 l2
  rw [l1, l2]
theorem rows_first {h : Heap} : ∀ {vs : List Value}, (∀ v ∈ vs, ∃ ns, TS.TupInts h v ns ∧ 1 ≤ ns.length) → ∃ fs, PySem.W.KatTups h vs fs ∧ fs.length = vs.length ∧ ∀ f ∈ fs, ∃ n t, f = Value.int n t
  | [], _ => ⟨[], PySem.W.KatTups.nil, rfl, fun f z => absurd z (by simp)⟩
  | v :: vs, g => by
    obtain ⟨fs, k1, k2, k3⟩ := rows_first (vs := vs) fun u z => g u (List.mem_cons_of_mem _ z)
    obtain ⟨ns, ⟨a, xs, rfl, ⟨o, ho, hc, n, hd⟩, hi⟩, hl⟩ := g v List.mem_cons_self
    cases e : xs.toList with
    | nil =>
      rw [e] at hi
      cases hi
      exact absurd hl (by decide)
    | cons y ys =>
      obtain ⟨m, t, hy⟩ := hi.all y (by rw [e]; exact List.mem_cons_self)
      have x0 : xs[0]? = some y := by
        have z := congrArg (fun l : List Value => l[0]?) e
        simpa using z
      refine ⟨y :: fs, PySem.W.KatTups.cons ho hc hd x0 k1, by rw [List.length_cons, List.length_cons, k2], fun f z => ?_⟩
      rcases List.mem_cons.mp z with rfl | z
      · exact ⟨m, t, hy⟩
      · exact k3 f z
theorem rows_able {a : Addr} {vs : List Value} {k : Value → List Int} (h0 : 0 < vs.length) (hp : ∀ v ∈ vs, TS.TupInts s.heap v (k v) ∧ 1 ≤ (k v).length) (ha : ∀ o, s.heap.get? a = some o → o.cls ≠ .type "tuple") : SrtO.SortableO prog w A s a vs (ltL k) := by
  intro h2 keep
  have g : ∀ v ∈ vs, TS.TupInts h2 v (k v) := fun v z => (hp v z).1.keeps fun b o e c => keep b o (fun y => by subst y; exact ha o e c) e
  obtain ⟨fs, k1, k2, k3⟩ := rows_first (h := h2) (vs := vs) fun v z => ⟨_, g v z, (hp v z).2⟩
  refine ⟨tuples' true, fun Q E hq => ?_, rows_cmp g⟩
  refine PySem.W.kat_kind (T := .type "int") k1 (by omega) (fun f z => ?_) (by rfl) ?_
  · obtain ⟨x, t, rfl⟩ := k3 f z
    exact PySem.W.Looks.now
  · have e : (Value.type "int" != Value.type "tuple") = true := by first | decide +kernel | rfl | decide
    rw [e]; exact hq
end
/-! ## a list walked: the outer and the inner loop of a comprehension -/
theorem walk_list {K : PySem.W.Frag} {a : Addr} {xs : List V} {H0 : Hp} {Qd : Hp → Prop} {B : V → Hp → (Hp → Prop) → Prop} (Pv : Nat → Hp → Prop) (h0 : Pv 0 H0) (hl : ∀ i H, i ≤ xs.length → Pv i H → SqL K H a xs)
    (hs : ∀ i x H, xs[i]? = some x → Pv i H → B x H (Pv (i + 1))) (hd : ∀ H, Pv xs.length H → Qd H) :
    ∃ W : Nat → Nat → Hp → Prop, (∃ m, W 0 m H0) ∧ ∀ i m H, W i m H → ((Itl K a).stop i H ∧ Qd H) ∨ ((Itl K a).go i H ∧ ∃ Nx : Hp → Prop, (∀ H', Nx H' → ∃ m', m' < m ∧ W (i + 1) m' H') ∧ ∀ x H', (Itl K a).yld i H x H' → B x H' Nx) := by
  refine ⟨fun i m H => m = xs.length - i ∧ i ≤ xs.length ∧ Pv i H, ⟨_, rfl, Nat.zero_le _, h0⟩, ?_⟩
  rintro i m H ⟨rfl, le, z⟩
  have q := hl i H le z
  rcases Nat.lt_or_eq_of_le le with lt | rfl
  · have e : xs[i]? = some xs[i] := by simp [lt]
    refine .inr ⟨⟨xs, xs[i], q, e⟩, Pv (i + 1), fun H2 z2 => ⟨_, by omega, rfl, lt, z2⟩, ?_⟩
    rintro x _ ⟨rfl, y⟩
    exact hs i x _ (y xs q) z
  · exact .inl ⟨⟨xs, q, Nat.le_refl _⟩, hd H z⟩
theorem pi_listK {X : Cx} {K : PySem.W.Frag} {tg e : Expr} {te : TE} (hK : X.K = K) (he : PE X e te) : PI X tg e (iList K te) := by subst hK; exact pi_list he
theorem pi_tupK {X : Cx} {K : PySem.W.Frag} {tg e : Expr} {te : TE} (hK : X.K = K) (he : PE X e te) : PI X tg e (iTup K te) := by subst hK; exact pi_tup he
theorem pa_starK {X : Cx} {K : PySem.W.Frag} {e : Expr} {es : List Expr} {p : Pos} {te : TE} {t : TA} (hK : X.K = K) (he : PE X e te) (hr : PA X es t) (hs : starEach (.Starred e p :: es) X.env = (true, eval e X.env) :: starEach es X.env := by rfl) : PA X (.Starred e p :: es) (StX.tStar K te t) := by subst hK; exact StX.pa_star he hr hs
end Ts
namespace PySem
open Sem (wp)
namespace TsLong
section
variable {prog : Program} {w : World} {A : Around} {E : Value → Shared → Prop} {s : Shared}
abbrev longObj (a b c : Int) : Obj := { cls := .type "longrange_iterator", data := .fields #[rawInt a, rawInt (Builtin.Range.rangeSize a b c), rawInt c] }
/-- a list is given what a range far away holds -/
theorem long_into {R : Result → Shared → Prop} {g : Addr} {a b c : Int} {t u v : Tok} {n : Nat} (hh : A.handled = none) (hg : IsRange s.heap g a b c t u v) (far : Builtin.Range.small a b c = false)
    (hn : Builtin.Range.rangeSize a b c = n) (le : n ≤ 2 ^ 24) (L : Addr) (res : Value) (c₀ : Nat) (hL : s.heap.get? L = some { cls := .type "list", data := .seq #[] c₀ })
    (hR : ∀ h2 tk acc d, (∀ x o, x ≠ L → s.heap.get? x = some o → h2.get? x = some o) → h2.get? L = some { cls := .type "list", dict := none, data := .seq acc d, slots := #[] } →
      ItemsOf (fun i v => ∃ t, v = .int (a + i * c) t) acc n → R (.ok (.ret res)) { s with heap := h2, toks := tk }) :
    wpAny (model prog w) A.in1 (Builtin.List.listExtendWith (.ref L) (.ref g) res)
      (fun z s2 => match z with | .done f => R (.ok f) s2 | .again k => k.quiet = true ∧ codeAny (model prog w) A k R s2) (fun e s2 => R (.error e) s2) s := by
  have ne : L ≠ g := fun e => by rw [e, hg] at hL; simp at hL
  have lt : L < s.heap.objs.size := Heap.lt_size hL
  have ni : L ≠ s.heap.objs.size := Nat.ne_of_lt lt
  have nf : L ∉ [s.heap.objs.size] := fun z => ni (List.mem_singleton.mp z)
  have W := (Walks.longrange (prog := prog) (w := w) (A := A.in1) hh s.heap.objs.size a c n).toS
  have key : ∀ (h : Heap) (c₁ tk : Nat), IsLongIter h s.heap.objs.size (a + ((0 : Nat) : Int) * c) ((n : Int) - ((0 : Nat) : Int)) c → (∀ x o, x ≠ L → s.heap.get? x = some o → h.get? x = some o) →
      h.get? L = some { cls := .type "list", data := .seq #[] c₁ } → codeAny (model prog w) A (.builtin "list.extend.loop" ⟨[.ref L, .ref s.heap.objs.size, res], []⟩) R { s with heap := h, toks := tk } := by
    intro h c₁ tk it kk h1
    refine codeAny_extend_loopS W (by rw [sizeLine_eq]; omega) L nf res n 0 _ #[] c₁ rfl (Nat.zero_le _) it h1 (ItemsOf.nil _) fun s2 acc d mv h3 h4 => ?_
    rw [Moved.eq_with mv]
    refine hR s2.heap s2.toks acc d (fun x o nx e => mv.heap x o (fun m => ?_) (kk x o nx e)) h3 h4
    rcases List.mem_cons.mp m with m | m
    · exact nx m
    · exact absurd (Heap.lt_size e) (by rw [List.mem_singleton.mp m]; exact Nat.lt_irrefl _)
  unfold Builtin.List.listExtendWith
  refine wpAny_bind (wpAny_typeOf (T := "range") ⟨_, hg, rfl⟩ ?_)
  have k1 : Builtin.List.listSameRef (.ref L) (.ref g) = false := by simp [Builtin.List.listSameRef, ne]
  have k2 : (Value.type "range" == Value.type "list") = false := by decide
  have k3 : (Value.type "range" == Value.type "tuple") = false := by decide
  simp only [k1, k2, k3, Bool.or_false, Bool.false_eq_true, if_false]
  refine wpAny_bind (wpAny_pyIter_longrange hg far ?_)
  refine wpAny_bind (wpAny_holding (wpAny_hint_range (n := n) (Heap.get?_push_of_some _ hg) hn le ?_))
  have it1 : IsLongIter (s.heap.push (longObj a b c)) s.heap.objs.size (a + ((0 : Nat) : Int) * c) ((n : Int) - ((0 : Nat) : Int)) c := by
    unfold longObj
    rw [hn]; simpa using Heap.get?_push_size _ rfl
  have h1 := Heap.get?_push_of_some (longObj a b c) hL
  refine wpAny_ite_split (fun _ => ?_) (fun _ => wpAny_pure ⟨plainId_quiet F.plain_extend_loop _, key _ c₀ _ it1 (fun x o _ e => Heap.get?_push_of_some _ e) h1⟩)
  refine wpAny_bind (wpAny_rule (wpAny_bind ?_))
  show wpAny _ _ (updateSeq L (·.push .none) >>= fun _ => updateSeq L (·.pop)) _ _ _
  refine wpAny_bind (wpAny_updateSeq h1 rfl ?_)
  have h2 := Heap.get?_update_self (Obj.mapSeq (·.push Value.none)) h1 rfl
  refine wpAny_updateSeq (hz := by seq_fits) h2 rfl ?_
  have h3 := Heap.get?_update_self (Obj.mapSeq (·.pop)) h2 rfl
  refine wpAny_pure ⟨plainId_quiet F.plain_extend_loop _, key _ _ _ ?_ (fun x o nx e => ?_) h3⟩
  · exact (Heap.get?_update_other _ _ ni).trans ((Heap.get?_update_other _ _ ni).trans it1)
  · exact (Heap.get?_update_other _ _ (Ne.symm nx)).trans ((Heap.get?_update_other _ _ (Ne.symm nx)).trans (Heap.get?_push_of_some _ e))
theorem long_init {R : Result → Shared → Prop} {g : Addr} {a b c : Int} {t u v : Tok} {n : Nat} (hh : A.handled = none) (hg : IsRange s.heap g a b c t u v) (far : Builtin.Range.small a b c = false)
    (hn : Builtin.Range.rangeSize a b c = n) (le : n ≤ 2 ^ 24) (L : Addr) (hL : s.heap.get? L = some { cls := .type "list", data := .seq #[] })
    (hR : ∀ h2 tk acc d, (∀ x o, x ≠ L → s.heap.get? x = some o → h2.get? x = some o) → h2.get? L = some { cls := .type "list", dict := none, data := .seq acc d, slots := #[] } →
      ItemsOf (fun i v => ∃ t, v = .int (a + i * c) t) acc n → R (.ok (.ret .none)) { s with heap := h2, toks := tk }) :
    wpAny (model prog w) A.in1 (Builtin.«list.__init__» ⟨[.ref L, .ref g], []⟩)
      (fun z s2 => match z with | .done f => R (.ok f) s2 | .again k => k.quiet = true ∧ codeAny (model prog w) A k R s2) (fun e s2 => R (.error e) s2) s := by
  have ne : L ≠ g := fun e => by rw [e, hg] at hL; simp at hL
  show wpAny _ _ (do let old ← Builtin.List.listItems (.ref L); Builtin.List.listUpdate (.ref L) (fun _ => #[]); letGo old.toList.reverse; Builtin.List.listExtendWith (.ref L) (.ref g) .none) _ _ s
  refine wpAny_bind ?_
  unfold Builtin.List.listItems
  refine wpAny_bind (wpAny_seqItems hL rfl (wpAny_pure ?_))
  show wpAny _ _ (updateSeq L (fun _ => #[]) >>= fun _ => letGo (#[] : Array Value).toList.reverse >>= fun _ => Builtin.List.listExtendWith (.ref L) (.ref g) .none) _ _ s
  refine wpAny_bind (wpAny_updateSeq hL rfl ?_)
  have h2 := Heap.get?_update_self (Obj.mapSeq (fun _ => (#[] : Array Value))) hL rfl
  have oth : ∀ x o, x ≠ L → s.heap.get? x = some o → (s.heap.update L (Obj.mapSeq (fun _ => (#[] : Array Value)))).get? x = some o := fun x o nx e => (Heap.get?_update_other _ _ (Ne.symm nx)).trans e
  refine wpAny_bind (wpAny_letGo ?_)
  refine long_into hh (oth g _ (Ne.symm ne) hg) far hn le L .none _ h2 fun h3 tk acc d kk z1 z2 => ?_
  exact hR h3 tk acc d (fun x o nx e => kk x o nx (oth x o nx e)) z1 z2
theorem list_long {Q : Value → Shared → Prop} {g : Addr} {a b c : Int} {t u v : Tok} {n : Nat} (hh : A.handled = none) (hg : IsRange s.heap g a b c t u v) (far : Builtin.Range.small a b c = false)
    (hn : Builtin.Range.rangeSize a b c = n) (le : n ≤ 2 ^ 24)
    (hQ : ∀ h2 tk acc d, (∀ x o, s.heap.get? x = some o → h2.get? x = some o) → h2.get? s.heap.objs.size = some { cls := .type "list", dict := none, data := .seq acc d, slots := #[] } →
      ItemsOf (fun i v => ∃ t, v = .int (a + i * c) t) acc n → Q (.ref s.heap.objs.size) { s with heap := h2, toks := tk }) :
    wpAny (model prog w) A (call (.type "list") [.ref g]) Q E s := by
  refine callType_codes (Q₁ := fun obj s₁ => obj = .ref s.heap.objs.size ∧ s₁ = { s with heap := s.heap.push { cls := .type "list", data := .seq #[] } }) F.called_list (F.typeCall_list_1 _) F.entry_list_init (code_list_new _ ⟨rfl, rfl⟩) fun obj s₁ z => ?_
  obtain ⟨rfl, rfl⟩ := z
  have h1 : (s.heap.push { cls := .type "list", data := .seq #[] }).get? s.heap.objs.size = some { cls := .type "list", data := .seq #[] } := Heap.get?_push_size _ rfl
  refine ⟨⟨_, h1, rfl⟩, F.args_list_init_2 _ _, long_init (A := A.in1) hh (Heap.get?_push_of_some _ hg) far hn le _ h1 fun h2 tk acc d kk z1 z2 => ?_⟩
  exact ⟨rfl, hQ h2 tk acc d (fun x o e => kk x o (Nat.ne_of_lt (Heap.lt_size e)) (Heap.get?_push_of_some _ e)) z1 z2⟩
end
end TsLong
end PySem
namespace Ts
open PySem PySem.Spec PyProof.Rows L2
theorem turn_long {P : Program} {w : World} {K : PySem.W.Frag} {tg : Expr} (it : Addr) (lo : Int) (n : Nat) : Turn P w K tg (Itr lo n) [it] it (fun i h => IsLongIter h it (lo + (i : Nat) * 1) ((n : Int) - (i : Nat)) 1) where
  mem := List.mem_singleton.mpr rfl
  obj := fun i h st b hb => by
    cases List.mem_singleton.mp hb
    exact ⟨_, st, fun v z => by
      have y : Data.fields _ = Data.cell v := z
      cases y⟩
  keep := fun i h h2 st k => k it (List.mem_singleton.mpr rfl) _ st
  item := by
    intro X hP hw hK hc i pins s σ H E I hf st hg
    subst hP hw hK
    obtain ⟨f0, f1, f2, f3, f4, f5⟩ := hf it (List.mem_singleton.mpr rfl)
    refine (Walks.longrange (prog := X.prog) (w := X.w) (I.ok.hd hc) it lo 1 n).item i s _ _ hg st fun v h2 tk hv st2 kk => ?_
    obtain ⟨t, rfl⟩ := hv
    have I1 : Inv X pins σ H { s with heap := h2, toks := tk } := I.turned (fun b o hb e => kk b o (by simpa using hb) e) f0 f1 f3 f4 f5
    refine ⟨_, rfl, go_of (s := { s with heap := h2, toks := tk }) (n := "longrange_iterator") st2 rfl rfl (by decide) ⟨.int (lo + i), H, I1, ⟨t, ?_⟩, ⟨rfl, rfl⟩, st2, fun b hb => (hf b hb).1⟩⟩
    rw [Int.mul_one]
  done := by
    intro X hP hw hK hc i pins s σ H E I hf st hg
    subst hP hw hK
    obtain ⟨f0, f1, f2, f3, f4, f5⟩ := hf it (List.mem_singleton.mpr rfl)
    exact wpAny_pyNext_long_end (I.ok.hd hc) st (by have : n ≤ i := hg; omega) fun h2 eb => ⟨rfl, I.turned (t' := s.toks) (fun b o hb e => eb b o hb e) f0 f1 f3 f4 f5⟩
  self := fun _ _ _ _ _ st h => wpAny_pyIter_longiter st h
section
variable {X : Cx} {tg : Expr}
theorem far_it {pins : List (Addr × Obj)} {σ : L2.St} {H : Hp} {s : Shared} {R : It → Hp → Prop} {E : Value → Shared → Prop} {lo hi : Int} {t u v : Tok} {tk : Nat} (I : Inv X pins σ H s)
    (q : R (Itr lo (hi - lo).toNat) H) : wpAny (model X.prog X.w) X.A (pyIter (.ref s.heap.objs.size)) (PIE X pins σ tg R) E { s with heap := s.heap.push { cls := .type "range", data := .fields #[.int lo t, .int hi u, .int 1 v] }, toks := tk } := by
  have e1 : lo + ((0 : Nat) : Int) * 1 = lo := by simp
  have e2 : (((hi - lo).toNat : Nat) : Int) - ((0 : Nat) : Int) = Builtin.Range.rangeSize lo hi 1 := by rw [rangeSize_one]; split <;> omega
  have I1 : Inv X pins σ H { s with heap := s.heap.push { cls := .type "range", data := .fields #[.int lo t, .int hi u, .int 1 v] }, toks := tk } := I.kept fun b o e => Heap.get?_push_of_some _ e
  generalize hh : s.heap.push { cls := .type "range", data := .fields #[.int lo t, .int hi u, .int 1 v] } = h1 at I1 ⊢
  have hr : IsRange h1 s.heap.objs.size lo hi 1 t u v := by rw [← hh]; exact IsRange.new ..
  cases far : Builtin.Range.small lo hi 1 with
  | true =>
    refine wpAny_pyIter_range hr far ⟨h1.objs.size, [h1.objs.size], _, _, H, rfl, I1.kept (t' := tk) fun b o e => Heap.get?_push_of_some _ e, turn_range _ lo (hi - lo).toNat, ?_, fun b hb => ?_, q⟩
    · show IsRangeIter _ _ (lo + ((0 : Nat) : Int) * 1) ((((hi - lo).toNat : Nat) : Int) - ((0 : Nat) : Int)) 1
      rw [e1, e2]
      exact Heap.get?_push_size _ rfl
    · cases List.mem_singleton.mp hb
      exact I1.fpOk (Nat.le_refl _) (I1.hok.fresh (Nat.le_refl _))
  | false =>
    refine wpAny_pyIter_longrange hr far ⟨h1.objs.size, [h1.objs.size], _, _, H, rfl, I1.kept (t' := tk) fun b o e => Heap.get?_push_of_some _ e, turn_long _ lo (hi - lo).toNat, ?_, fun b hb => ?_, q⟩
    · show IsLongIter _ _ (lo + ((0 : Nat) : Int) * 1) ((((hi - lo).toNat : Nat) : Int) - ((0 : Nat) : Int)) 1
      rw [e1, e2]
      exact Heap.get?_push_size _ rfl
    · cases List.mem_singleton.mp hb
      exact I1.fpOk (Nat.le_refl _) (I1.hok.fresh (Nat.le_refl _))
/-- a range between any two numbers -/
def iRngF (ta : TA) : TI := fun σ H R => ta σ H fun vs H1 => ∃ i j : Int, vs = [.int i, .int j] ∧ R (Itr i (j - i).toNat) H1
theorem pi_rangeF {a b : Expr} {ta : TA} {p pos : Pos} (hg : Gl X "range") (hm : X.mg "range" = none) (ha : PA X [a, b] ta) (hs : starEach [a, b] X.env = [(false, eval a X.env), (false, eval b X.env)] := by rfl) (hs2 : starEach [b] X.env = [(false, eval b X.env)] := by rfl) :
    PI X tg (.Call (.Name "range" p) [a, b] [] pos) (iRngF ta) := by
  refine ⟨fun pins s σ H R I h => ?_⟩
  refine Call_ (ld_blt I hg hm boot_range (PyProof.Rows.callWith_type1 (thn (ha.run pos pins s σ H _ I h) fun us s1 ⟨vs, H1, I1, r1, q1⟩ => ?_) (by rw [hs, hs2]) (by rw [hs2]; rfl)))
  obtain ⟨i, j, rfl, q⟩ := q1
  obtain ⟨u1, u2, rfl, r, r2⟩ := vals2 r1
  obtain ⟨t, rfl⟩ := r
  obtain ⟨t2, rfl⟩ := r2
  exact call_range_2 (far_it I1 q)
def tLstRgF (te : L2.St → Hp → (Int → Int → Hp → Prop) → Prop) : TE := fun σ H Q => te σ H fun a b H1 => (b - a).toNat ≤ 16777216 ∧ ∀ q, H1 q = none → Q (.ref q) (upd H1 q (.lst (rgV a b)))
theorem pe_listRgF {e : Expr} {te : L2.St → Hp → (Int → Int → Hp → Prop) → Prop} {p pos : Pos} (hc : X.calm = true) (hg : Gl X "list") (hm : X.mg "list" = none) (he : PRg X e te) (na : starEach [e] X.env = (false, eval e X.env) :: starEach [] X.env := by rfl) :
    PE X (.Call (.Name "list" p) [e] [] pos) (tLstRgF te) := by
  refine ⟨fun pins s σ H Q I h => ?_⟩
  refine Call_ (ld_blt I hg hm boot_list (PyProof.Rows.callWith_type1 (args_cons (thn (he pins s σ H _ I h) fun x s1 ⟨r, a, b, t, u, v, H1, ex, hr, I1, ok, q⟩ => args_nil ?_) na) na))
  subst ex
  have fin : ∀ h2 tk acc d, (∀ x o, s1.heap.get? x = some o → h2.get? x = some o) → h2.get? s1.heap.objs.size = some { cls := .type "list", dict := none, data := .seq acc d, slots := #[] } →
      ItemsOf (fun i v => ∃ t, v = .int (a + i * 1) t) acc (b - a).toNat → EP X pins σ Q (.ref s1.heap.objs.size) { s1 with heap := h2, toks := tk } := fun h2 tk acc d kk z1 z2 => by
    refine ⟨.ref s1.heap.objs.size, upd H1 s1.heap.objs.size (.lst (rgV a b)), I1.laid kk (Nat.le_refl _) (show ObjOk X.prog X.w _ _ _ (.lst (rgV a b)) from ⟨?_, acc.toList, d, vals_rg z2, ?_⟩), rfl, q _ (I1.hok.fresh (Nat.le_refl _))⟩
    · rw [rgV_length, sizeLine_eq]; omega
    · rw [Array.toArray_toList]; exact z1
  cases far : Builtin.Range.small a b 1 with
  | true => exact call_list_range (n := (b - a).toNat) (I1.ok.hd hc) hr far (rangeSize_nat a b) ok fin
  | false => exact TsLong.list_long (n := (b - a).toNat) (I1.ok.hd hc) hr far (rangeSize_nat a b) ok fin
end
/-! ## tuples put together, also with empty ones -/
section
variable {prog : Program} {w : World} {A : Around} {E : Value → Shared → Prop} {s : Shared}
theorem cat_none {t b : Addr} {vs : List Value} {Q : Value → Shared → Prop} (ht : IsTup s.heap t #[]) (hb : IsTup s.heap b vs.toArray) (h : Q (.ref b) s) : wpAny (model prog w) A (binaryOp .Add (.ref t) (.ref b)) Q E s := by
  obtain ⟨⟨c1, d1, k1, l1⟩, o1, e1, n1, g1⟩ := id ht
  obtain ⟨⟨c2, d2, k2, l2⟩, o2, e2, n2, g2⟩ := id hb
  simp only at e1 g1 e2 g2
  subst e1 g1 e2 g2
  exact concat_meets ⟨_, o1, rfl⟩ ⟨_, o2, rfl⟩ noFill_tuple_add seq_tuple_add PySem.F.slot_tuple_add PySem.F.entry_tuple_add (PySem.F.args_tuple_add_2 _ _) (tuple_addW0 t b #[] vs.toArray n1 n2 d1 d2 l1 l2 (by simp)) ⟨o1, o2, h⟩
end
def rCatU (K : PySem.W.Frag) : R2 := fun x y H Q => ∃ a b xs ys, x = .ref a ∧ y = .ref b ∧ SqT K H a xs ∧ SqT K H b ys ∧ xs.length + ys.length ≤ sizeLine ∧
  ∀ p H', Same H H' → (p = a ∨ p = b ∨ H p = none) → SqT K H' p (xs ++ ys) → Q (.ref p) H'
theorem op_catU {X : Cx} : OpR X (binaryOp .Add) (rCatU X.K) := by
  intro pins s σ H x y v u Q I rx ry h
  obtain ⟨a, b, xs, ys, rfl, rfl, ha, hb, hz, q⟩ := id h
  by_cases hx : xs = []
  · subst hx
    cases rx
    cases ry
    obtain ⟨its, r1, p1, _⟩ := I.tuple ha
    obtain ⟨its2, r2, p2, _⟩ := I.tuple hb
    cases r1
    exact cat_none p1 p2 ⟨.ref b, H, I, rfl, q b H (fun _ _ z => z) (.inr (.inl rfl)) hb⟩
  · refine op_catT pins s σ H _ _ v u Q I rx ry ⟨a, b, xs, ys, rfl, rfl, ha, hb, hx, hz, fun e => ?_, fun _ p hp => q p _ (same_new hp) (.inr (.inr hp)) (SqT.of upd_same)⟩
    subst e
    exact q a H (fun _ _ z => z) (.inl rfl) (by rw [List.append_nil]; exact ha)
theorem op_catUK {X : Cx} {K : PySem.W.Frag} (h : X.K = K) : OpR X (binaryOp .Add) (rCatU K) := by subst h; exact op_catU
end Ts
namespace Ts
open PySem PySem.Spec PyProof.Rows L2
/-! ## rows: one of each -/
abbrev rowD (r : List Int) : PyData := .tuple (r.map PyData.int)
abbrev optD (o : List Int) : PyData := .list (o.map PyData.int)
/-- each row, with each number of the next ones behind it -/
def growR (rows : List (List Int)) (o : List Int) : List (List Int) := rows.flatMap fun r => o.map fun m => r ++ [m]
def picksR (os : List (List Int)) : List (List Int) := os.foldl growR [[]]
theorem grow_len {rows : List (List Int)} {o : List Int} : (growR rows o).length = rows.length * o.length := by
  unfold growR
  induction rows with
  | nil => simp
  | cons r rows ih => rw [List.flatMap_cons, List.length_append, ih, List.length_map, List.length_cons, Nat.add_mul]; omega
theorem picks_snoc {os : List (List Int)} {i : Nat} {o : List Int} (h : os[i]? = some o) : picksR (os.take (i + 1)) = growR (picksR (os.take i)) o := by
  unfold picksR
  rw [List.take_add_one, h, List.foldl_append]; rfl
theorem picks_len : ∀ {os : List (List Int)}, (∀ o ∈ os, o.length ≤ 2) → (picksR os).length ≤ 2 ^ os.length := by
  intro os h
  have go : ∀ (os : List (List Int)) (rows : List (List Int)), (∀ o ∈ os, o.length ≤ 2) → (os.foldl growR rows).length ≤ rows.length * 2 ^ os.length := by
    intro os
    induction os with
    | nil => intro rows _; simp
    | cons o os ih =>
      intro rows h
      have h1 := ih (growR rows o) fun x hx => h x (List.mem_cons_of_mem _ hx)
      rw [grow_len] at h1
      have h2 := h o List.mem_cons_self
      rw [List.foldl_cons, List.length_cons, Nat.pow_succ]
      refine Nat.le_trans h1 ?_
      calc rows.length * o.length * 2 ^ os.length ≤ rows.length * 2 * 2 ^ os.length := Nat.mul_le_mul_right _ (Nat.mul_le_mul_left _ h2)
        _ = rows.length * (2 ^ os.length * 2) := by rw [Nat.mul_assoc, Nat.mul_comm 2]
  have := go os [[]] h
  simpa [picksR] using this
theorem picks_each {os : List (List Int)} : ∀ r ∈ picksR os, r.length = os.length := by
  have go : ∀ (os : List (List Int)) (rows : List (List Int)) (n : Nat), (∀ r ∈ rows, r.length = n) → ∀ r ∈ os.foldl growR rows, r.length = n + os.length := by
    intro os
    induction os with
    | nil => intro rows n h r hr; exact h r hr
    | cons o os ih =>
      intro rows n h r hr
      have h1 := ih (growR rows o) (n + 1) (fun r hr => by
        unfold growR at hr
        obtain ⟨r1, h1, h2⟩ := List.mem_flatMap.mp hr
        obtain ⟨m, _, rfl⟩ := List.mem_map.mp h2
        rw [List.length_append, h r1 h1]; rfl) r hr
      rw [h1, List.length_cons]; omega
  intro r hr
  have := go os [[]] 0 (by simp) r hr
  omega
theorem grow_snoc {rows : List (List Int)} {k : Nat} {r o : List Int} (h : rows[k]? = some r) : growR (rows.take (k + 1)) o = growR (rows.take k) o ++ o.map fun m => r ++ [m] := by
  unfold growR
  rw [List.take_add_one, h, List.flatMap_append]; simp
theorem picks_small {os : List (List Int)} {i : Nat} (h : ∀ o ∈ os, o.length ≤ 2) (l : os.length ≤ 6) : (picksR (os.take i)).length ≤ 64 := by
  have a := picks_len (os := os.take i) fun o z => h o (List.mem_of_mem_take z)
  have b : (os.take i).length ≤ 6 := by rw [List.length_take]; omega
  exact Nat.le_trans a (Nat.pow_le_pow_right (by decide) b)
/-! ## the numbers that keep a work -/
/-- the numbers of ticks with which a work is kept at t -/
def keptL (e p : Nat) (t : Int) : List Int := if t * e % p = 0 then [lowI e p t] else [lowI e p t, lowI e p t + 1]
theorem kept_len {e p : Nat} {t : Int} : (keptL e p t).length ≤ 2 := by unfold keptL; split <;> simp
theorem high_eq {e p : Nat} {t : Int} (hp : 0 < p) : highI e p t = if t * e % p = 0 then lowI e p t else lowI e p t + 1 := by
  unfold highI lowI
  have hp : (0 : Int) < p := by omega
  have h1 := Int.mul_ediv_add_emod (t * e) p
  have h2 := Int.emod_nonneg (t * e) (Int.ne_of_gt hp)
  have h3 := Int.emod_lt_of_pos (t * e) hp
  generalize (t * (e : Int)) = n at *
  generalize n / (p : Int) = q at *
  generalize n % (p : Int) = r at *
  split
  · rename_i h
    rw [show n + p - 1 = (p - 1 : Int) + p * q by omega, Int.add_mul_ediv_left _ _ (Int.ne_of_gt hp), Int.ediv_eq_zero_of_lt (by omega) (by omega)]; omega
  · rename_i h
    rw [show n + p - 1 = (r - 1 : Int) + p * (q + 1) by rw [Int.mul_add]; omega, Int.add_mul_ediv_left _ _ (Int.ne_of_gt hp), Int.ediv_eq_zero_of_lt (by omega) (by omega)]; omega
/-- the options of all works at t -/
def optsR (js : List Job) (t : Int) : List (List Int) := js.map fun j => keptL j.2.1 j.2.2 t
def rowsR (js : List Job) (t : Int) : List (List Int) := picksR (optsR js t)
theorem rows_each {js : List Job} {t : Int} : ∀ r ∈ rowsR js t, r.length = js.length := fun r h => by
  rw [picks_each r h]; exact List.length_map _
theorem rows_len {js : List Job} {t : Int} : (rowsR js t).length ≤ 2 ^ js.length := by
  have h := picks_len (os := optsR js t) fun o h => by
    unfold optsR at h
    obtain ⟨j, _, rfl⟩ := List.mem_map.mp h
    exact kept_len
  have e : (optsR js t).length = js.length := List.length_map _
  rw [e] at h; exact h
theorem kept_rg {e p : Nat} {t : Int} (hp : 0 < p) : rgV (lowI e p t) (highI e p t + 1) = (keptL e p t).map V.int := by
  unfold keptL
  rw [high_eq hp]
  split
  · rw [rg_snoc (Int.le_refl _), rg_nil (Int.le_refl _)]; rfl
  · rw [show lowI e p t + 1 + 1 = (lowI e p t + 1) + 1 from rfl, rg_snoc (by omega), rg_snoc (Int.le_refl _), rg_nil (Int.le_refl _)]; rfl
theorem kept_ends {e p : Nat} {t m : Int} (hp : 0 < p) : (t * e - m * p < p ∧ m * p - t * e < p) ↔ (lowI e p t ≤ m ∧ m < highI e p t + 1) := by
  unfold lowI highI
  have h1 := div_le_iff (a := t * e) (t := m) hp
  have h2 := lt_up_iff (a := t * e) (t := m - 1) hp
  rw [Int.add_mul, Int.one_mul] at h1
  rw [Int.sub_mul, Int.one_mul] at h2
  constructor
  · rintro ⟨a, b⟩
    exact ⟨h1.mpr (by omega), by have := h2.mpr (by omega); omega⟩
  · rintro ⟨a, b⟩
    have c := h1.mp a
    have d := h2.mp (by omega)
    exact ⟨by omega, by omega⟩
theorem span_one {js : List Job} (G : Good 16 js) (h : js.length = 1) : spanN js ≤ 16 := by
  match js, h with
  | [j], _ =>
    obtain ⟨a, b, c, _⟩ := G.part j List.mem_cons_self
    show Nat.lcm 1 j.2.2 ≤ 16
    rw [Nat.lcm_one_left]; exact c
/-! ## what is asked -/
def spPicks (K : PySem.W.Frag) : Sp := fun vs H Q _ => ∃ (a : Addr) (os : List (List Int)), vs = [.ref a] ∧ Dp K H (.ref a) (.list (os.map optD)) ∧ os.length ≤ 6 ∧ (∀ o ∈ os, o.length ≤ 2) ∧
  ∀ (p : Addr) (H' : Hp), H p = none → Same H H' → Dp K H' (.ref p) (.list ((picksR os).map rowD)) → Q (.ref p) H'
def spCheckRound (K : PySem.W.Frag) (C : Addr) : Sp := fun vs H Q _ => ∃ (a : Addr) (n : Nat) (js : List Job), vs = [.ref a] ∧ LotAt K C H a n js ∧ spanN js ≤ 720 ∧ Q .non H
abbrev lohiD (t : Int) (j : Job) : PyData := .tuple [.int (lowI j.2.1 j.2.2 t), .int (highI j.2.1 j.2.2 t)]
def spNumbersAt (K : PySem.W.Frag) (C : Addr) : Sp := fun vs H Q _ => ∃ (a : Addr) (n : Nat) (js : List Job) (t : Int), vs = [.ref a, .int t] ∧ LotAt K C H a n js ∧ Good 16 js ∧ js.length ≤ 6 ∧
  ∀ (p : Addr) (H' : Hp), H p = none → Same H H' → Dp K H' (.ref p) (.list (js.map (lohiD t))) → Q (.ref p) H'
def spStandings (K : PySem.W.Frag) (C : Addr) : Sp := fun vs H Q _ => ∃ (a : Addr) (n : Nat) (js : List Job) (t : Int), vs = [.ref a, .int t] ∧ LotAt K C H a n js ∧ Good 16 js ∧ js.length ≤ 6 ∧ spanN js ≤ 720 ∧ 0 ≤ t ∧ t ≤ 10 ^ 30 ∧
  ∀ (p : Addr) (H' : Hp), H p = none → Same H H' → Dp K H' (.ref p) (.tuple ((rowsR js t).map rowD)) → Q (.ref p) H'
/-- by the law's own look -/
def spKept (K : PySem.W.Frag) : Sp := fun vs H Q _ => ∃ (v : V) (e p : Nat) (t : Int), vs = [v, .int t] ∧ Dp K H v (partD e p) ∧ GoodPart 16 e p ∧ 0 ≤ t ∧
  ∀ (q : Addr) (H' : Hp), H q = none → Same H H' → H' q = some (.lst ((keptL e p t).map V.int)) → Q (.ref q) H'
end Ts
namespace Ts
/-! ## crews as numbers -/
def crewN (ms : List Nat) : Nat := (ms.map fun m => 2 ^ m).sum
def posL {α : Type} (p : α → Bool) : List α → Nat → List Nat
  | [], _ => []
  | x :: r, i => if p x = true then i :: posL p r (i + 1) else posL p r (i + 1)
theorem posL_lt {α : Type} (p : α → Bool) : ∀ (l : List α) (i : Nat), crewN (posL p l i) + 2 ^ i ≤ 2 ^ (i + l.length)
  | [], i => by simp [posL, crewN]
  | x :: r, i => by
    have ih := posL_lt p r (i + 1)
    have e : i + (x :: r).length = i + 1 + r.length := by simp; omega
    rw [e]
    unfold posL
    have e2 : 2 ^ (i + 1) = 2 ^ i + 2 ^ i := by rw [Nat.pow_succ]; omega
    have e3 := Nat.two_pow_pos i
    split
    · show (2 ^ i + crewN (posL p r (i + 1))) + 2 ^ i ≤ _
      omega
    · omega
theorem posL_lt0 {α : Type} (p : α → Bool) (l : List α) : crewN (posL p l 0) < 2 ^ l.length := by
  have := posL_lt p l 0
  rw [Nat.zero_add, Nat.pow_zero] at this; omega
theorem posL_in {α : Type} (p : α → Bool) : ∀ (l : List α) (i : Nat), ∀ m ∈ posL p l i, i ≤ m ∧ m < i + l.length
  | [], i, m, h => by cases h
  | x :: r, i, m, h => by
    unfold posL at h
    have ih := posL_in p r (i + 1)
    rw [List.length_cons]
    split at h
    · rcases List.mem_cons.mp h with rfl | h
      · omega
      · have := ih m h; omega
    · have := ih m h; omega
theorem posL_snoc {α : Type} (p : α → Bool) : ∀ (l : List α) (i : Nat) (x : α), posL p (l ++ [x]) i = posL p l i ++ if p x = true then [i + l.length] else []
  | [], i, x => by
    show (if p x = true then i :: [] else []) = [] ++ _
    simp
  | y :: r, i, x => by
    show (if p y = true then i :: posL p (r ++ [x]) (i + 1) else posL p (r ++ [x]) (i + 1)) = (if p y = true then i :: posL p r (i + 1) else posL p r (i + 1)) ++ _
    rw [posL_snoc p r (i + 1) x]
    have e : i + 1 + r.length = i + (y :: r).length := by simp; omega
    rw [e]
    split <;> simp
theorem posL_len {α : Type} (p : α → Bool) : ∀ (l : List α) (i : Nat), (posL p l i).length ≤ l.length
  | [], _ => Nat.le_refl _
  | x :: r, i => by
    have := posL_len p r (i + 1)
    unfold posL
    rw [List.length_cons]
    split
    · rw [List.length_cons]; omega
    · omega
def sizesN : Nat → List Nat
  | 0 => [0]
  | n + 1 => sizesN n ++ (sizesN n).map (· + 1)
def subsN : Nat → List (List Nat)
  | 0 => [[0]]
  | n + 1 => subsN n ++ (subsN n).map fun w => w ++ w.map (· + 2 ^ n)
theorem sizes_len : ∀ n, (sizesN n).length = 2 ^ n
  | 0 => rfl
  | n + 1 => by rw [sizesN, List.length_append, List.length_map, sizes_len n, Nat.pow_succ]; omega
theorem subs_len : ∀ n, (subsN n).length = 2 ^ n
  | 0 => rfl
  | n + 1 => by rw [subsN, List.length_append, List.length_map, subs_len n, Nat.pow_succ]; omega
/-- what lies within a crew is no greater, and of the same works -/
theorem subs_in : ∀ n, ∀ w ∈ subsN n, w.length ≤ 2 ^ n ∧ ∀ p ∈ w, p < 2 ^ n
  | 0, w, h => by
    have e : w = [0] := by simpa [subsN] using h
    subst e
    refine ⟨by decide, fun p hp => ?_⟩
    have : p = 0 := by simpa using hp
    subst this; decide
  | n + 1, w, h => by
    have e2 : 2 ^ (n + 1) = 2 ^ n + 2 ^ n := by rw [Nat.pow_succ]; omega
    rcases List.mem_append.mp h with h | h
    · obtain ⟨a, b⟩ := subs_in n w h
      exact ⟨by omega, fun p hp => by have := b p hp; omega⟩
    · obtain ⟨u, hu, rfl⟩ := List.mem_map.mp h
      obtain ⟨a, b⟩ := subs_in n u hu
      refine ⟨by rw [List.length_append, List.length_map]; omega, fun p hp => ?_⟩
      rcases List.mem_append.mp hp with hp | hp
      · have := b p hp; omega
      · obtain ⟨q, hq, rfl⟩ := List.mem_map.mp hp
        have := b q hq; omega
/-! ## the walk back -/
/-- the standings of a crew's subsets, as a number -/
def possN (n c : Nat) : Nat := crewN ((subsN n).getD c [])
def notAheadN (n at_ : Nat) : Nat := crewN (((subsN n).getD (2 ^ n - 1) []).filter fun a => a / 2 ^ at_ % 2 == 0)
def stepN (grown at_ others given idle : Nat) : Nat :=
  if grown / 2 ^ at_ % 2 = 1 then given ||| ((idle &&& others) * 2 ^ 2 ^ at_) else idle ||| ((given / 2 ^ 2 ^ at_) &&& others)
/-- pairs of what comes with a hand and without one -/
def pairN (found : List Nat) : List (Nat × Nat) := (found ++ [0]).zip (0 :: found)
def foundN (grown : Nat) : List Nat → Nat → List Nat → List Nat
  | [], _, found => found
  | o :: os, at_, found => foundN grown os (at_ + 1) ((pairN found).map fun q => stepN grown at_ o q.2 q.1)
def beforeN (after grown : Nat) (na : List Nat) (most : Nat) : Nat := ((foundN grown na 0 [after]).take (most + 1)).foldl (· ||| ·) 0
end Ts
namespace Ts
open PySem PySem.Spec PyProof.Rows L2
/-! ## rows of great numbers, written and compared -/
/-- data of short texts and of numbers of up to forty digits -/
structure Fine (w e : Nat) (d : PyData) : Prop where
  sh : d.showable = true
  lv : d.leavesShort 40 = true
  wt : d.weight ≤ w
  dp : d.depth ≤ e
  nd : d.hasDict = false
structure FineAll (w e : Nat) (ds : List PyData) : Prop where
  sh : PyData.showableAll ds = true
  lv : PyData.leavesShortAll 40 ds = true
  wt : PyData.weightAll ds ≤ w
  dp : PyData.depthAll ds ≤ e
  nd : PyData.hasDictAll ds = false
theorem FineAll.nil {w e : Nat} : FineAll w e [] := ⟨rfl, rfl, Nat.zero_le _, Nat.zero_le _, rfl⟩
theorem FineAll.cons {w w' e : Nat} {d : PyData} {ds : List PyData} (h : Fine w e d) (g : FineAll w' e ds) : FineAll (w + 1 + w') e (d :: ds) := by
  have h1 := h.wt
  have h2 := g.wt
  have h3 := h.dp
  have h4 := g.dp
  exact ⟨by show (d.showable && PyData.showableAll ds) = true; rw [h.sh, g.sh]; rfl, by show (d.leavesShort 40 && PyData.leavesShortAll 40 ds) = true; rw [h.lv, g.lv]; rfl, by show d.weight + 1 + PyData.weightAll ds ≤ w + 1 + w'; omega,
    by show max d.depth (PyData.depthAll ds) ≤ e; omega, by show (d.hasDict || PyData.hasDictAll ds) = false; rw [h.nd, g.nd]; rfl⟩
theorem FineAll.tup {w e : Nat} {ds : List PyData} (g : FineAll w e ds) : Fine w (e + 1) (.tuple ds) := ⟨g.sh, g.lv, g.wt, Nat.succ_le_succ g.dp, g.nd⟩
theorem FineAll.lst {w e : Nat} {ds : List PyData} (g : FineAll w e ds) : Fine w (e + 1) (.list ds) := ⟨g.sh, g.lv, g.wt, Nat.succ_le_succ g.dp, g.nd⟩
theorem Fine.mono {w w' e e' : Nat} {d : PyData} (h : Fine w e d) (h1 : w ≤ w') (h2 : e ≤ e') : Fine w' e' d := ⟨h.sh, h.lv, Nat.le_trans h.wt h1, Nat.le_trans h.dp h2, h.nd⟩
theorem FineAll.mono {w w' e e' : Nat} {ds : List PyData} (h : FineAll w e ds) (h1 : w ≤ w') (h2 : e ≤ e') : FineAll w' e' ds := ⟨h.sh, h.lv, Nat.le_trans h.wt h1, Nat.le_trans h.dp h2, h.nd⟩
theorem fine_int {e : Nat} {i : Int} (h0 : 0 ≤ i) (h1 : i < 10 ^ 40) : Fine 140 e (.int i) := by
  obtain ⟨a, b⟩ := int_big h0 h1
  refine ⟨a, decide_eq_true b, ?_, Nat.zero_le _, rfl⟩
  show (if i == 0 then 0 else i.natAbs.log2 + 1) ≤ 140
  split
  · omega
  · by_cases z : i.natAbs = 0
    · rw [z]; decide
    · have k : ((10 : Int) ^ 40) = ((10 ^ 40 : Nat) : Int) := by rw [Int.natCast_pow]; rfl
      rw [k] at h1
      have l : i.natAbs < 10 ^ 40 := by generalize 10 ^ 40 = c at h1 ⊢; omega
      have := (Nat.log2_lt z).mpr (Nat.lt_trans l (by decide +kernel : 10 ^ 40 < 2 ^ 139))
      omega
theorem fine_none {e : Nat} : Fine 0 e .none := ⟨rfl, rfl, Nat.le_refl _, Nat.zero_le _, rfl⟩
theorem fine_bool {e : Nat} {b : Bool} : Fine 0 e (.bool b) := ⟨rfl, rfl, Nat.le_refl _, Nat.zero_le _, rfl⟩
theorem fine_ints : ∀ {l : List Int}, (∀ i ∈ l, 0 ≤ i ∧ i < 10 ^ 40) → FineAll (141 * l.length) 0 (l.map PyData.int)
  | [], _ => FineAll.nil
  | i :: l, h => by
    obtain ⟨a, b⟩ := h i List.mem_cons_self
    exact (FineAll.cons (fine_int (e := 0) a b) (fine_ints (l := l) fun x hx => h x (List.mem_cons_of_mem _ hx))).mono (by rw [List.length_cons]; omega) (Nat.le_refl _)
theorem fine_all {w e : Nat} : ∀ {ds : List PyData}, (∀ d ∈ ds, Fine w e d) → FineAll ((w + 1) * ds.length) e ds
  | [], _ => FineAll.nil
  | d :: ds, h => by
    refine (FineAll.cons (h d List.mem_cons_self) (fine_all (ds := ds) fun x hx => h x (List.mem_cons_of_mem _ hx))).mono ?_ (Nat.le_refl _)
    rw [List.length_cons, Nat.mul_add]; omega
theorem Fine.fits {w e : Nat} {d : PyData} (h : Fine w e d) (h1 : w ≤ 300000) (h2 : e < 60) : d.showable = true ∧ d.hasDict = false ∧ d.depth < 60 ∧ d.shown.length ≤ sizeLine := by
  refine ⟨h.sh, h.nd, Nat.lt_of_le_of_lt h.dp h2, ?_⟩
  have a := PyData.shown_le 40 (by decide) d h.lv
  have b := h.wt
  rw [sizeLine_eq]
  omega
theorem fine_rows {rows : List (List Int)} (hl : rows.length ≤ 64) (h6 : ∀ r ∈ rows, r.length ≤ 6) (h : ∀ r ∈ rows, ∀ i ∈ r, 0 ≤ i ∧ i < 10 ^ 40) : Fine 60000 2 (.tuple (rows.map rowD)) := by
  have a := fine_all (ds := rows.map rowD) (w := 846) (e := 1) fun d hd => by
    obtain ⟨r, hr, rfl⟩ := List.mem_map.mp hd
    exact (fine_ints (h r hr)).tup.mono (by have := h6 r hr; omega) (Nat.le_refl _)
  rw [List.length_map] at a
  exact a.tup.mono (by omega) (Nat.le_refl _)
theorem picks_mem {P : Int → Prop} {os : List (List Int)} (h : ∀ o ∈ os, ∀ m ∈ o, P m) : ∀ r ∈ picksR os, ∀ m ∈ r, P m := by
  have go : ∀ (os rows : List (List Int)), (∀ o ∈ os, ∀ m ∈ o, P m) → (∀ r ∈ rows, ∀ m ∈ r, P m) → ∀ r ∈ os.foldl growR rows, ∀ m ∈ r, P m := by
    intro os
    induction os with
    | nil => intro rows _ g; exact g
    | cons o os ih =>
      intro rows h g
      refine ih _ (fun x hx => h x (List.mem_cons_of_mem _ hx)) fun r hr => ?_
      unfold growR at hr
      obtain ⟨r1, h1, h2⟩ := List.mem_flatMap.mp hr
      obtain ⟨m, hm, rfl⟩ := List.mem_map.mp h2
      intro y hy
      rcases List.mem_append.mp hy with z | z
      · exact g r1 h1 y z
      · rw [List.mem_singleton.mp z]; exact h o List.mem_cons_self m hm
  exact go os [[]] h (by simp)
theorem kept_range {e p : Nat} {t : Int} (he : 0 < e) (hp : e ≤ p) (ht : 0 ≤ t) : ∀ m ∈ keptL e p t, 0 ≤ m ∧ m ≤ t + 1 := by
  obtain ⟨a, b⟩ := low_range he hp ht
  intro m hm
  unfold keptL at hm
  split at hm
  · rw [List.mem_singleton.mp hm]; omega
  · simp only [List.mem_cons, List.not_mem_nil, or_false] at hm
    rcases hm with rfl | rfl <;> omega
theorem rows_range {js : List Job} {t : Int} (G : Good 16 js) (ht : 0 ≤ t) : ∀ r ∈ rowsR js t, ∀ m ∈ r, 0 ≤ m ∧ m ≤ t + 1 := picks_mem fun o ho => by
  unfold optsR at ho
  obtain ⟨j, hj, rfl⟩ := List.mem_map.mp ho
  obtain ⟨g1, g2, _⟩ := G.part j hj
  exact kept_range g1 g2 ht
theorem rows_fine {js : List Job} {t : Int} (G : Good 16 js) (l6 : js.length ≤ 6) (ht : 0 ≤ t) (h : t ≤ 10 ^ 31) : Fine 60000 2 (.tuple ((rowsR js t).map rowD)) := by
  refine fine_rows (Nat.le_trans rows_len (Nat.pow_le_pow_right (n := 2) (by decide) l6)) (fun r hr => by rw [rows_each r hr]; exact l6) fun r hr i hi => ?_
  obtain ⟨a, b⟩ := rows_range G ht r hr i hi
  exact ⟨a, by have : (10 : Int) ^ 31 + 1 < 10 ^ 40 := by decide
               omega⟩
/-! ## equal rows -/
/-! ## draws out of a great many -/
end Ts
namespace Ts
open PySem PySem.Spec PyProof.Rows L2
/-! ## bits of numbers from 0 on -/
theorem and_nat (a b : Nat) : Builtin.bitAnd (a : Int) (b : Int) = ((a &&& b : Nat) : Int) := by
  unfold Builtin.bitAnd
  rw [decide_eq_true (show (0 : Int) ≤ (a : Int) by omega), decide_eq_true (show (0 : Int) ≤ (b : Int) by omega)]
  rfl
theorem not_not (x : Int) : Builtin.bitNot (Builtin.bitNot x) = x := by unfold Builtin.bitNot; omega
theorem not_neg (a : Nat) : ¬ (0 : Int) ≤ Builtin.bitNot (a : Int) := by unfold Builtin.bitNot; omega
theorem or_nat (a b : Nat) : Builtin.bitOr (a : Int) (b : Int) = ((a ||| b : Nat) : Int) := by
  unfold Builtin.bitOr Builtin.bitAnd
  rw [decide_eq_false (not_neg a), decide_eq_false (not_neg b)]
  show Builtin.bitNot (Builtin.bitNot (((Builtin.bitNot (Builtin.bitNot (a : Int))).toNat ||| (Builtin.bitNot (Builtin.bitNot (b : Int))).toNat : Nat) : Int)) = _
  rw [not_not, not_not, not_not]; rfl
/-- of one crew those that are not in the other -/
def needN (g a : Nat) : Nat := g - (g &&& a)
def xorN (g a : Nat) : Nat := (g ||| a) - (g &&& a)
theorem and_not (g a : Nat) : Builtin.bitAnd (g : Int) (Builtin.bitNot (a : Int)) = ((needN g a : Nat) : Int) := by
  unfold Builtin.bitAnd needN
  rw [decide_eq_true (show (0 : Int) ≤ (g : Int) by omega), decide_eq_false (not_neg a)]
  show (g : Int) - (((g : Int).toNat &&& (Builtin.bitNot (Builtin.bitNot (a : Int))).toNat : Nat) : Int) = _
  rw [not_not]
  show (g : Int) - ((g &&& a : Nat) : Int) = _
  have := Nat.and_le_left (n := g) (m := a)
  omega
theorem xor_nat (g a : Nat) : Builtin.bitXor (g : Int) (a : Int) = ((xorN g a : Nat) : Int) := by
  unfold Builtin.bitXor xorN
  rw [and_nat, or_nat]
  have h1 := Nat.and_le_left (n := g) (m := a)
  have h2 : g ≤ g ||| a := Nat.left_le_or
  omega
theorem need_le (g a : Nat) : needN g a ≤ g := Nat.sub_le _ _
theorem need_ge (g a : Nat) : g ≤ a + needN g a := by
  unfold needN
  have := Nat.and_le_right (n := g) (m := a)
  omega
theorem shr_nat (a k : Nat) : (a : Int) / 2 ^ ((k : Int)).toNat = ((a / 2 ^ k : Nat) : Int) := by
  rw [Int.toNat_natCast]; norm_cast
theorem shl_nat (a k : Nat) : (a : Int) * 2 ^ ((k : Int)).toNat = ((a * 2 ^ k : Nat) : Int) := by
  rw [Int.toNat_natCast]; norm_cast
section
variable {X : Cx}
theorem ip_bor : PIp X .BitOr (ipI fun i j => Builtin.bitOr i j) := fun pins s σ H x y v u Q I rx ry h => iop_or pins s σ H x y v u Q I rx ry h
/-- a whole number as a test -/
def tTruI (ta : TE) : TT := fun σ H Q => ta σ H fun x H' => ∃ i : Int, x = .int i ∧ Q (i != 0) H'
theorem pt_truI {a : Expr} {ta : TE} (ha : PE X a ta) (he : ∀ whole, isTrue a X.env whole = (do let v ← whole; standAt a.pos; holding [v] (truthy v)) := by intro _; rfl) : PT X a (tTruI ta) :=
  ⟨fun pins s σ H Q I h => PyProof.Rows.isTrue_plain (thn (ha.run pins s σ H _ I h) fun v s1 ⟨x, H1, I1, r1, i, ex, q1⟩ => tru_ok pins s1 σ H1 x v Q I1 r1 ⟨_, by rw [ex]; exact rfl, q1⟩) (he _)⟩
end
/-! ## lists of numbers -/
abbrev natV (ms : List Nat) : List V := ms.map fun m : Nat => V.int (m : Int)
abbrev natD (ms : List Nat) : List PyData := ms.map fun m : Nat => PyData.int (m : Int)
theorem dp_nats {K : PySem.W.Frag} {H : Hp} : ∀ ms : List Nat, DpAll K H (natV ms) (natD ms)
  | [] => .nil
  | m :: ms => .cons (.int _) (dp_nats ms)
theorem nats_eq {K : PySem.W.Frag} {H : Hp} : ∀ {vs : List V} {ms : List Nat}, DpAll K H vs (natD ms) → vs = natV ms
  | [], [], _ => rfl
  | _ :: _, [], h => nomatch h
  | _, m :: ms, .cons h a => by rw [Dp.int_eq h, nats_eq a]; rfl
theorem Dp.nats {K : PySem.W.Frag} {H : Hp} {v : V} {ms : List Nat} (h : Dp K H v (.list (natD ms))) : ∃ a, v = .ref a ∧ SqL K H a (natV ms) := by
  obtain ⟨a, xs, rfl, h1, h2⟩ := h.list
  rw [nats_eq h2] at h1
  exact ⟨a, rfl, h1⟩
theorem natV_sum (ms : List Nat) : (ms.map fun m : Nat => (m : Int)).sum = ((ms.sum : Nat) : Int) := by
  induction ms with
  | nil => rfl
  | cons m ms ih => rw [List.map_cons, List.sum_cons, List.sum_cons, ih]; norm_cast
theorem cut_toN {xs : List V} {m : Nat} : cutV xs none (some ((m : Int) + 1)) = xs.take (m + 1) := by
  have e : HT.sIx xs.length xs.length (some ((m : Int) + 1)) = min (m + 1) xs.length := by
    show (if ((m : Int) + 1) < 0 then (((m : Int) + 1) + (xs.length : Int)).toNat else min ((m : Int) + 1).toNat xs.length) = _
    rw [if_neg (by omega)]
    congr 1
  unfold cutV
  rw [e, HT.sIx_none, List.drop_zero, Nat.sub_zero]
  by_cases h : m + 1 ≤ xs.length
  · rw [Nat.min_eq_left h]
  · rw [Nat.min_eq_right (by omega), List.take_length, List.take_of_length_le (by omega)]
theorem one_shl (k : Nat) : (1 : Int) * 2 ^ ((k : Int)).toNat = ((2 ^ k : Nat) : Int) := by rw [show (1 : Int) = ((1 : Nat) : Int) from rfl, shl_nat, Nat.one_mul]
theorem odd_test (x : Nat) : (Builtin.bitAnd (x : Int) 1 != 0) = decide (x % 2 = 1) := by
  rw [show (1 : Int) = ((1 : Nat) : Int) from rfl, and_nat, Nat.and_one_is_mod]
  have : x % 2 = 0 ∨ x % 2 = 1 := by omega
  rcases this with z | z <;> rw [z] <;> rfl
def membersN (c : Nat) : List Nat := (List.range (Builtin.Int.intBits (c : Int))).filter fun a => c / 2 ^ a % 2 == 1
def grownL (xs ys : List Int) : Nat := crewN (posL (fun q : Int × Int => decide (q.1 < q.2)) (xs.zip ys) 0)
abbrev subsD (n : Nat) : List PyData := (subsN n).map fun w => PyData.list (natD w)
/-! ## what is asked -/
def spCrewOf (K : PySem.W.Frag) : Sp := fun vs H Q _ => ∃ (a : Addr) (ms : List Nat), vs = [.ref a] ∧ SqL K H a (natV ms) ∧ ms.length ≤ 1000 ∧ (∀ m ∈ ms, m ≤ 1000) ∧ ∀ H', Same H H' → Q (.int (crewN ms)) H'
def spMembersOf : Sp := fun vs H Q _ => ∃ c : Nat, vs = [.int (c : Int)] ∧ c < 1000 ∧ ∀ (p : Addr) (H' : Hp), H p = none → Same H H' → H' p = some (.tup (natV (membersN c))) → Q (.ref p) H'
def spSizesOf : Sp := fun vs H Q _ => ∃ n : Nat, vs = [.int (n : Int)] ∧ n ≤ 6 ∧ ∀ (p : Addr) (H' : Hp), H p = none → Same H H' → H' p = some (.lst (natV (sizesN n))) → Q (.ref p) H'
def spPartsOf (K : PySem.W.Frag) : Sp := fun vs H Q _ => ∃ n : Nat, vs = [.int (n : Int)] ∧ n ≤ 6 ∧ ∀ (p : Addr) (H' : Hp), H p = none → Same H H' → Dp K H' (.ref p) (.list (subsD n)) → Q (.ref p) H'
def spGrown (K : PySem.W.Frag) : Sp := fun vs H Q _ => ∃ (a b : Addr) (xs ys : List Int), vs = [.ref a, .ref b] ∧ SqL K H a (xs.map V.int) ∧ SqL K H b (ys.map V.int) ∧ xs.length = ys.length ∧ xs.length ≤ 6 ∧ ∀ H', Same H H' → Q (.int (grownL xs ys)) H'
def spBefore (K : PySem.W.Frag) : Sp := fun vs H Q _ => ∃ (c g m : Nat) (b : Addr) (os : List Nat), vs = [.int (c : Int), .int (g : Int), .ref b, .int (m : Int)] ∧ SqL K H b (natV os) ∧ os.length ≤ 6 ∧ (∀ o ∈ os, o < 2 ^ 64) ∧ m ≤ 1000 ∧ ∀ H', Same H H' → Q (.int (beforeN c g os m)) H'
end Ts
namespace Ts
open PySem PySem.Spec PyProof.Rows L2 L2H LamX
/-! ## try .. except (A, B, C) as e -/
theorem ff_keep {h h' base : Heap} (k : ∀ (b : Addr) (o : Obj), h.get? b = some o → h'.get? b = some o) : ∀ {l : List Env}, h.FunFrames base l → h'.FunFrames base l
  | [], _ => trivial
  | env :: rest, z => by
    obtain ⟨z1, ⟨L, o, z2, z3, z4, z5⟩, z6⟩ := z
    exact ⟨z1, ⟨L, o, z2, z3, k _ _ z4, z5⟩, ff_keep k z6⟩
theorem fly_keep {base h h' : Heap} {l : List Env} {e : Addr} {Z : Obj → Prop} (k : ∀ (b : Addr) (o : Obj), h.get? b = some o → h'.get? b = some o) (z : HandSPX.FlyingZ base l e Z h) : HandSPX.FlyingZ base l e Z h' := by
  obtain ⟨z1, z2, z3, oe, vs, T, oT, ts, t1, t2, t3, t4, t5, t6, t7, t8, t9⟩ := z
  exact ⟨fun b o e => k _ _ (z1 b o e), z2, ff_keep k z3, oe, vs, T, oT, ts, k _ _ t1, t2, t3, t4, t5, t6, k _ _ t7, t8, t9⟩
def wTup (K : PySem.W.Frag) (cs : List Value) (i : Nat) (ts : Addr → Value → Option Addr → TS) (D : Ends) : WX := fun cls d σ H => PySem.W.exmAny K cls cs = some true ∧ ∀ a, H a = none →
  ts a cls d { nx := fun σ' H' => D.nx (σ'.set i none) H', rt := D.rt, bk := fun σ' H' => D.bk (σ'.set i none) H', ct := fun σ' H' => D.ct (σ'.set i none) H' } (σ.set i (some (.ref a))) H
theorem ld_name {X : Cx} {E : Value → Shared → Prop} {pins : List (Addr × Obj)} {s : Shared} {σ : L2.St} {H : Hp} {x : Str} {c : Value} {pos : Pos} {Q : Value → Shared → Prop} (I : L2.Inv X pins σ H s) (hc : Names X x c) (q : Q c s) :
    wpAny (model X.prog X.w) X.A (eval (.Name x pos) X.env) Q E s := by
  obtain ⟨hg, hd, hm | ⟨hm, hv, hn⟩⟩ := hc
  · exact ld_glob I hg hm q hd
  · exact ld_blt I hg hm hv q hn hd
theorem ps_try_tup3 {X : Cx} {x1 x2 x3 n : Str} {c1 c2 c3 : Value} {i k1 : Nat} {body suite : List Stmt} {b₀ : Stmt} {np1 np2 np3 tp pos pos' : Pos} {tb : WX → TS} {ts : Addr → Value → Option Addr → TS}
    (hs : X.stack = X.env :: X.outer) (hf : X.env.frame = some X.env.locals) (hN : X.N.Nodup) (hi : X.N[i]? = some n) (hln : X.env.kindOf n = some NameKind.local) (hc1 : Names X x1 c1) (hc2 : Names X x2 c2) (hc3 : Names X x3 c3)
    (hb : ∀ (W : WX) (pn : List (Addr × Obj)) (xe : Value → Shared → Prop), Takes (X.tr pn xe) W → PassesOwn (model X.prog X.w) X.A X.env xe → PSs (X.tr pn xe) body (tb W))
    (hsu : ∀ (a : Addr) (oe : Obj) (cls : Value) (d : Option Addr) (pn : List (Addr × Obj)), Zc cls d oe → (∃ vs, oe.data = Data.fields vs) → PSs (X.suite a ((a, oe) :: pn)) (b₀ :: suite) (ts a cls d)) :
    PS X (.Try body [.ExceptHandler (some (.Tuple [.Name x1 np1, .Name x2 np2, .Name x3 np3] k1 tp)) (some n) (b₀ :: suite) pos'] [] [] pos) fun D σ H => tb (wTup X.K [c1, c2, c3] i ts D) D σ H := by
  refine ⟨fun pins s σ H D I h => ?_⟩
  have ok := I.ok
  have hfr : X.A.frames = some (X.env :: X.outer) := by rw [ok.frames, hs]
  refine wpAny_Try_except (wpAny_mono ((hb (wTup X.K [c1, c2, c3] i ts D) (X.pn ++ pins) (fun e s₁ => wpAny (model X.prog X.w) X.A (noteFrame e X.env) (fun _ s₂ => wpAny (model X.prog X.w) X.A (setFlight e none) (fun _ s₃ => wpAny (model X.prog X.w) X.A (handleBy e X.env [.ExceptHandler (some (.Tuple [.Name x1 np1, .Name x2 np2, .Name x3 np3] k1 tp)) (some n) (b₀ :: suite) pos']) (SP X pins D) X.xe s₃) X.xe s₂) X.xe s₁) (fun u s' xx => ?_) PassesOwn.looking).run [] s σ H D (I.toTry _) h) (fun f s1 hsp => ?_) (fun e s1 he => he))
  · obtain ⟨a, B, sI, pins', σ', H', cls, d, rfl, J', nb, up, sky, na, os, ag, hm, hyes⟩ := xx
    have J := J'.ofTry ok
    have sky' : Sky B (X.env :: X.outer) a (Zc cls d) X.env.locals s'.heap := by rw [← hs]; exact sky
    refine Sky.land Zc.steady hfr hf sky' fun h3 fl3 up3 => ?_
    have J3 := J.landed (s' := { heap := h3, gens := s'.gens, drawn := s'.drawn, toks := s'.toks, os := s'.os }) nb fl3.1 (up.trans up3) os ag
    obtain ⟨oe3, vs3, he3, hz3, hd3⟩ := HandSPX.FlyingZ.there fl3
    have nfr : a ∉ List.filterMap (fun x : Env => x.frame) (X.env :: X.outer) := fun hm => by
      obtain ⟨_, o', e', hnf⟩ := Heap.FunFrames.mem fl3.2.2.1 hm
      rw [he3] at e'
      cases e'
      exact hnf _ hd3
    have nL : a ≠ X.env.locals := fun z => nfr (List.mem_filterMap.mpr ⟨X.env, List.mem_cons_self, by rw [hf, z]⟩)
    have nF : a ∉ X.fs := fun hm => by
      obtain ⟨e, he, q⟩ := List.mem_filterMap.mp hm
      exact nfr (List.mem_filterMap.mpr ⟨e, List.mem_cons_of_mem _ he, q⟩)
    have S3 := J3.suite he3 hd3 na nL nF
    refine wpAny_handleBy_cons ?_ (fun q => by cases q)
    refine codeAny_handlers_test (wpAny_Tuple_spliced ?_)
    refine Calls.spliced_cons (ld_name S3 hc1 (Calls.spliced_cons (ld_name S3 hc2 (Calls.spliced_cons (ld_name S3 hc3 (Calls.spliced_nil ?_))))))
    have kp : ∀ (b : Addr) (o : Obj), h3.get? b = some o → (h3.push { cls := Value.type "tuple", data := Data.seq #[c1, c2, c3] }).get? b = some o := fun b o e => Heap.get?_push_of_some _ e
    have tp3 : (h3.push { cls := Value.type "tuple", data := Data.seq #[c1, c2, c3] }).get? h3.objs.size = some { cls := Value.type "tuple", data := Data.seq #[c1, c2, c3] } := Heap.get?_push_size h3 rfl
    refine ⟨by show 3 ≤ sizeLine; decide, ?_⟩
    have fl5 := fly_keep kp fl3
    have up5 : h3.UpToSlots (h3.push { cls := Value.type "tuple", data := Data.seq #[c1, c2, c3] }) := fun b o e _ => ⟨o.slots, kp b o e⟩
    have KX := (Inv.kIn J3).keeps kp
    have LM := PySem.W.exm_tup3 (M := model X.prog X.w) (e := a) KX (fun A Q E s k' q => wpAny_typeOf_ref (k' a oe3 (kp _ _ he3)) (by rw [hz3.1]; exact q)) tp3 hm
    revert fl5 up5 KX LM kp tp3
    generalize h3.push { cls := Value.type "tuple", data := Data.seq #[c1, c2, c3] } = h5
    intro kp tp3 fl5 up5 KX LM
    refine PySem.W.Looks.here LM ?_
    refine codeAny_handlers_suite_as (HandSPX.lands_againZ fl5 fun h4 fl4 up4 => ?_)
    have J4 := J.landed (s' := { heap := h4, gens := s'.gens, drawn := s'.drawn, toks := s'.toks, os := s'.os }) nb fl4.1 (((up.trans up3).trans up5).trans up4) os ag
    obtain ⟨oe4, vs4, he4, hz4, hd4⟩ := HandSPX.FlyingZ.there fl4
    have S4 := J4.suite he4 hd4 na nL nF
    refine store_ok (X := X.suite a ((a, oe4) :: (X.pn ++ pins))) (v := .ref a) S4 hN hi (Or.inl hln) rfl (fun s5 S5 => ?_) (Or.inr hln)
    refine wpAny_mono ((hsu a oe4 cls d (X.pn ++ pins) hz4 ⟨vs4, hd4⟩).run [] s5 (σ'.set i (some (.ref a))) H' _ S5 (hyes a na)) (fun f s6 hsp => ?_) (fun _ _ z => z.elim)
    have end_ : ∀ {σ6 : L2.St} {H6 : Hp} {Q : Unit → Shared → Prop}, L2.Inv (X.suite a ((a, oe4) :: (X.pn ++ pins))) [] σ6 H6 s6 → (∀ s7, L2.Inv X pins (σ6.set i none) H6 s7 → Q () s7) → wpAny (model X.prog X.w) X.A (do
        bindName X.env n Value.none
        unbindBehindTheSuite X.env n pos') Q X.xe s6 := fun S6 hq => gone_ok (S6.unsuite ok) hN hi hln hq
    cases f with
    | next => obtain ⟨σ6, H6, S6, q6⟩ := hsp; exact end_ S6 fun s7 J7 => ⟨_, H6, J7, q6⟩
    | brk => obtain ⟨σ6, H6, S6, q6⟩ := hsp; exact end_ S6 fun s7 J7 => ⟨_, H6, J7, q6⟩
    | cont => obtain ⟨σ6, H6, S6, q6⟩ := hsp; exact end_ S6 fun s7 J7 => ⟨_, H6, J7, q6⟩
    | ret u => obtain ⟨v6, σ6, H6, S6, r6, q6⟩ := hsp; exact end_ S6 fun s7 J7 => ⟨v6, _, H6, J7, r6, q6⟩
  · cases f with
    | next => obtain ⟨σ', H', J', q⟩ := hsp; exact wpAny_execs_nil ⟨σ', H', J'.ofTry ok, q⟩
    | brk => obtain ⟨σ', H', J', q⟩ := hsp; exact ⟨σ', H', J'.ofTry ok, q⟩
    | cont => obtain ⟨σ', H', J', q⟩ := hsp; exact ⟨σ', H', J'.ofTry ok, q⟩
    | ret u => obtain ⟨v, σ', H', J', r, q⟩ := hsp; exact ⟨v, σ', H', J'.ofTry ok, r, q⟩
/-! ## defs called within an except suite: they know the error that is handled -/
section
variable (P : Program) (w : World) (K : PySem.W.Frag) (mg : Str → Option Value) (base : Heap)
structure FnP (k : Nat) (f : Addr) (fd : FuncData) (ps : List Str) (sp : Addr × Obj → Sp) : Prop where
  len : ∀ p vs H Q E, sp p vs H Q E → vs.length = ps.length
  go : ∀ (A : Around) (out : List Env) (s : Shared) (H : Hp) (us : List Value) (vs : List V) (Q : VK) (p : Addr × Obj), RoomH k A → PinOk out H s p → Env0 P w K mg base A out s H →
    BindsTo s fd ⟨us, []⟩ (ps.zip us) → Vals vs us → sp p vs H Q E0 → codeAny (model P w) A (.call (.ref f) ⟨us, []⟩) (CR CX0 out P w H s Q E0) s
structure HasP (k : Nat) (x : Str) (ps : List Str) (sp : Addr × Obj → Sp) : Prop where
  ex : ∃ f fd, FnP P w K mg base k f fd ps sp ∧ mg x = some (.ref f) ∧ PySem.W.keepIn K (.ref f) = true ∧ Binds K fd ps []
end
section
variable {P : Program} {w : World} {K : PySem.W.Frag} {mg : Str → Option Value} {base : Heap}
theorem DefAt.hasP {x : Str} {st : Stmt} {k : Nat} {ps : List Str} {sp : Addr × Obj → Sp} (D : DefAt K mg x st)
    (hb : ∀ (kV doc pm : Value) (an : Option Addr) (cdv ct : Value) (us : List Value), us.length = ps.length → bindArgs (PySem.W.fnOf x x (defArgs st) (defBody st) (defScope st) .none kV doc pm an cdv ct) ⟨us, []⟩ = pure (ps.zip us))
    (ok : ∀ f fd, Fun K x x st f fd → FnP P w K mg base k f fd ps sp) : HasP P w K mg base k x ps sp := by
  obtain ⟨f, fd, F, hm⟩ := D.ex
  exact ⟨f, fd, ok f fd F, hm, F.kp, F.binds hb⟩
theorem fun_p {x qual : Str} {st : Stmt} {f : Addr} {fd : FuncData} {N ps : List Str} {k : Nat} {sp : Addr × Obj → Sp} (F : Fun K x qual st f fd) (S : FnScope N ps (defScope st))
    (ln : ∀ p vs H Q E, sp p vs H Q E → vs.length = ps.length)
    (hb : ∀ (cdv : Value) (A : Around) (out : List Env) (s : Shared) (H : Hp) (vs : List V) (Q : VK) (p : Addr × Obj), RoomH k (A.deeper (envOfC qual (defScope st) s.heap.objs.size f cdv)) → sp p vs H Q E0 →
      ∃ t, PSs (cxH CX0 P w K mg base N qual (defScope st) f cdv A out s H E0 p) (defBody st) t ∧ t { nx := fun _ H' => Q .non H', rt := Q } (start N vs) H) : FnP P w K mg base (k + 1) f fd ps sp := by
  obtain ⟨oc, od, kV, doc, pm, an, cdv, ct, osl, rfl, lk, hcd⟩ := F.ex
  refine ⟨ln, fun A out s H us vs Q p hr hpin e0 hbd r q => ?_⟩
  have hl := ln p vs H Q E0 q
  have KX := PySem.W.Frag.In.keeps e0.mod.kin fun b o e => (e0.bs b o e).1
  have lim := Heap.NoLimit.keeps e0.mod.nolimit fun b o e => (e0.bs b o e).1
  have hkind : ∀ y ∈ ps.zip us, (defScope st).names.lookup y.1 = some .local ∨ ((defScope st).names.lookup y.1 = some .cell ∧ ((cellsFrom (s.heap.objs.size + 1) (defScope st).names []).lookup y.1).isSome = true) := by
    intro y hy
    have hm : y.1 ∈ ps := (List.of_mem_zip (a := y.1) (b := y.2) hy).1
    rcases S.par _ hm with z | z
    · exact Or.inl z
    · exact Or.inr ⟨z, PySem.W.cellsFrom_some _ _ _ (Or.inl z)⟩
  refine codeAny_call_function (RoomH.depth hr) (KX _ _ lk) rfl S.co S.gen rfl (PySem.W.codeRec_of KX hcd) (hbd _ _ _ _ ?_)
  refine wpAny_newFunctionEnv_cells S.kind hkind fun env he s1 ic => ?_
  subst he
  refine ⟨lim.keeps ic.toInCall.keep, codeAny_func ?_⟩
  obtain ⟨t, ht, hq⟩ := hb cdv A out s H vs Q p (hr.deeper _) q
  have J := inv_startH (CX := CX0) (E := E0) S hpin e0 hl r ic
  refine wpAny_mono (ht.run [] s1 (start N vs) H _ J hq) (fun fl s2 z => ?_) fun er s2 z => z
  cases fl with
  | ret u => obtain ⟨v, σ2, H2, J2, rv, q2⟩ := z; exact ⟨v, H2, J2.os, J2.bare, J2.base, J2.hok, rv, q2⟩
  | next => obtain ⟨σ2, H2, J2, q2⟩ := z; exact ⟨V.non, H2, J2.os, J2.bare, J2.base, J2.hok, rfl, q2⟩
  | brk => obtain ⟨_, _, _, z2⟩ := z; exact z2.elim
  | cont => obtain ⟨_, _, _, z2⟩ := z; exact z2.elim
end
section
variable {X : Cx} {k : Nat} {x : Str} {ps : List Str} {sp : Addr × Obj → Sp} {p : Addr × Obj} {q pos : Pos} {e : Expr} {es : List Expr} {t : TA}
/-- a call within an except suite, or within a def called there -/
theorem pe_p (h : HasP X.prog X.w X.K X.mg X.base k x ps sp) (hp : p ∈ X.pn) (hr : RoomH k X.A) (ha : PA X (e :: es) t) (hg : Gl X x := by rfl) (hdb : (x == ("__debug__" : Str)) = false := by decide)
    (he : starEach (e :: es) X.env = (false, eval e X.env) :: starEach es X.env := by rfl) (hpl : (backTo pos (starEach es X.env)).any (·.1) = false := by rfl) :
    PE X (.Call (.Name x q) (e :: es) [] pos) (tCall (sp p) [] E0 t) := by
  obtain ⟨f, fd, F, hm, hk, hb⟩ := h.ex
  refine ⟨fun pins s σ H Q I g => ?_⟩
  refine wpAny_Call_Name_kw (ld_glob I hg hm ?_ hdb)
  refine PySem.W.callWith_K (h₀ := X.base) I.ok.mod.kin hk (thn (ha.run pos pins s σ H _ I g) fun us s1 hq => ?_) he hpl
  obtain ⟨vs, H1, I1, r, q1⟩ := hq
  have q2 : sp p vs H1 Q E0 := by rw [List.append_nil] at q1; exact q1
  have P1 := I1.pin p (List.mem_append_left pins hp)
  have hpin : PinOk X.stack H1 s1 p := ⟨P1.1, P1.2.1, fun hm => Or.elim (List.mem_cons.mp (Inv.stkSub I1 p.1 hm)) P1.2.2.1 P1.2.2.2.1, P1.2.2.2.2⟩
  refine ⟨I1.kIn, wpAny_call (codeAny_mono (F.go X.A X.stack s1 H1 us vs Q p hr hpin I1.env0 ?_ r q2) fun rr s2 z => ?_)⟩
  · have := hb s1 us I1.kIn (by rw [List.append_nil, ← r.length]; exact F.len _ _ _ _ _ q2)
    rw [List.append_nil] at this; exact this
  · cases rr with
    | error er => exact z.elim
    | ok fl => cases fl with
      | ret u => exact I1.after z
      | next => exact z.elim
      | brk => exact z.elim
      | cont => exact z.elim
/-! ## what an error that is handled is asked -/
/-- what the written part says of an error's class -/
structure ExcK (K : PySem.W.Frag) (C : Addr) : Prop where
  ic : (PySem.W.clsIn K C).isSome = true
  ga : PySem.W.findIn K (.ref C) "__getattribute__" = some (some (.builtin "BaseException.__getattribute__"))
  gg : PySem.W.findIn K (.ref C) "__getattr__" = some none
  sb : PySem.W.subIn K (.ref C) (.type "BaseException") = some true
  ca : PySem.W.findIn K (.ref C) "__class__" = some (some (.builtin "object.__class__"))
  cb : PySem.W.specialIn K (.builtin "object.__class__") "__get__" = some (some (.builtin "getset_descriptor.__get__"))
  cc : PySem.W.takesIn K (.builtin "object.__class__") = some true
  cm : PySem.W.mroIn K C (.type "object") = some true
  hd : PySem.W.hasDictIn K C = true
/-- an error at p: its class, its fields -/
def ErrAt (H : Hp) (p : Addr × Obj) (C : Addr) (fs : List (Str × V)) : Prop := (∃ vs, p.2.data = Data.fields vs) ∧ ((∃ d, Zc (.ref C) (some d) p.2 ∧ H d = some (.xd fs)) ∨ (Zc (.ref C) none p.2 ∧ fs = []))
theorem ErrAt.mono {H H' : Hp} {p : Addr × Obj} {C : Addr} {fs : List (Str × V)} (h : ErrAt H p C fs) (s : Same H H') : ErrAt H' p C fs := by
  obtain ⟨h2, ⟨d, h1, h3⟩ | h1⟩ := h
  · exact ⟨h2, .inl ⟨d, h1, s _ _ h3⟩⟩
  · exact ⟨h2, .inr h1⟩
theorem err_inst {X : Cx} {pins : List (Addr × Obj)} {σ : L2.St} {H : Hp} {s : Shared} {p : Addr × Obj} {C : Addr} {fs : List (Str × V)} {f : Str} {v : V} (I : L2.Inv X pins σ H s) (hp : p ∈ X.pn) (h : ErrAt H p C fs) (hv : List.lookup f fs = some v) :
    ∃ (od : Obj) (mA : Str → Option Value), PySem.W.InstAt s.heap p.1 p.2 C (some od) ∧ (∀ name : Str, PySem.W.lookIn name od = some (mA name)) ∧ ∀ f : Str, RelO (List.lookup f fs) (mA f) := by
  obtain ⟨⟨vs, hd⟩, ⟨d, hz, hx⟩ | ⟨_, rfl⟩⟩ := h
  · obtain ⟨mA, hns, hr⟩ := I.hok d _ hx
    obtain ⟨od, ho, hl⟩ := lookIn_ns hns
    exact ⟨od, mA, ⟨(I.pin p (List.mem_append_left pins hp)).1, hz.1, by unfold PySem.W.notCls; rw [hd] <;> rfl, by rw [hz.2]; exact ho⟩, hl, hr⟩
  · cases hv
theorem err_inst0 {X : Cx} {pins : List (Addr × Obj)} {σ : L2.St} {H : Hp} {s : Shared} {p : Addr × Obj} {C : Addr} {fs : List (Str × V)} (I : L2.Inv X pins σ H s) (hp : p ∈ X.pn) (h : ErrAt H p C fs) : ∃ od : Option Obj, PySem.W.InstAt s.heap p.1 p.2 C od := by
  obtain ⟨⟨vs, hd⟩, ⟨d, hz, hx⟩ | ⟨hz, _⟩⟩ := h
  · obtain ⟨mA, hns, hr⟩ := I.hok d _ hx
    obtain ⟨od, ho, hl⟩ := lookIn_ns hns
    exact ⟨some od, ⟨(I.pin p (List.mem_append_left pins hp)).1, hz.1, by unfold PySem.W.notCls; rw [hd] <;> rfl, by rw [hz.2]; exact ho⟩⟩
  · exact ⟨none, ⟨(I.pin p (List.mem_append_left pins hp)).1, hz.1, by unfold PySem.W.notCls; rw [hd] <;> rfl, by rw [hz.2]; trivial⟩⟩
/-- isinstance(e, T) -/
def rIsP (K : PySem.W.Frag) (p : Addr × Obj) : List V → Hp → VK → Prop := fun xs H Q => ∃ (c : V) (cv : Value) (b : Bool) (C : Addr) (fs : List (Str × V)), xs = [.ref p.1, c] ∧ (∀ u, RelV c u → u = cv) ∧ ExcK K C ∧ ErrAt H p C fs ∧ PySem.W.kitOne K (.ref C) cv = some b ∧ Q (.bl b) H
theorem call_isP {p : Addr × Obj} (hp : p ∈ X.pn) : CallR X (.builtin "isinstance") (rIsP X.K p) := by
  intro pins s σ H xs us Q I r h
  obtain ⟨c, cv, b, C, fs, rfl, hcv, hK, hE, e, q⟩ := h
  cases r with
  | cons q1 rest =>
    cases rest with
    | cons q2 rest =>
      cases rest
      cases q1
      have ec := hcv _ q2
      subst ec
      obtain ⟨od, J⟩ := err_inst0 I hp hE
      exact PySem.W.kia_one (PySem.W.kitx_exc hK.ic hK.ga hK.gg hK.sb hK.ca hK.cb hK.cc hK.cm) I.kIn J e (fun z => nomatch z) fun tk => ⟨.bl b, H, I.kept fun _ _ z => z, rfl, q⟩
/-- e.f -/
def tErr (K : PySem.W.Frag) (p : Addr × Obj) (f : Str) (te : TE) : TE := fun σ H Q => te σ H fun x H1 => x = .ref p.1 ∧ ∃ (C : Addr) (fs : List (Str × V)) (v : V), ExcK K C ∧ PySem.W.findIn K (.ref C) f = some none ∧ ErrAt H1 p C fs ∧ List.lookup f fs = some v ∧ Q v H1
theorem pe_err {p : Addr × Obj} {e : Expr} {te : TE} {f : Str} {pos : Pos} (hp : p ∈ X.pn) (he : PE X e te) (hb : attributeBase e f X.env (eval e X.env) = eval e X.env := by rfl) : PE X (.Attribute e f pos) (tErr X.K p f te) := by
  refine ⟨fun pins s σ H Q I h => ?_⟩
  refine attr_of hb (thn (he.run pins s σ H _ I h) fun u s1 hh => ?_)
  obtain ⟨x, H1, I1, rx, ex, C, fs, v, hK, noN, hE, hl, q⟩ := hh
  subst ex
  obtain rfl : u = Value.ref p.1 := rx
  obtain ⟨od, mA, J, hlk, hr⟩ := err_inst I1 hp hE hl
  obtain ⟨u, hu, ru⟩ := RelO.some_of (v := v) (o := mA f) (by rw [← hl]; exact hr f)
  exact HandSPX.exc_get I1.kIn J hK.ga hK.gg hK.sb (PySem.W.findObj_own hK.hd noN rfl (by rw [hlk, hu])) (handed_of ru) ⟨v, H1, I1.tok _, ru, q⟩
end
/-! ## own errors of one field are raised -/
def spErr (C : Addr) (fld : Str) : Sp := fun vs H Q _ => ∃ (a : Addr) (v : V), vs = [.ref a, v] ∧ H a = some (exo a C none) ∧ ∀ d, H d = none → d ≠ a → Q .non (upd (upd H d (exd d [(fld, v)])) a (exo a C (some d)))
/-- what is behind the making of an error -/
theorem mk_err {C : Addr} {fld : Str} {v : V} {H1 : Hp} {Q : XK} (q : ∀ d, H1 d = none → Q (.ref C) (some d) (upd H1 d (.xd [(fld, v)]))) :
    [v].length ≤ 1000 ∧ ∀ a : Addr, H1 a = none → spErr C fld (.ref a :: ([v] ++ [])) (upd H1 a (exo a C none))
      (fun v H2 => v = .non ∧ ∃ (d : Addr) (fs : List (Str × V)), H2 a = some (exo a C (some d)) ∧ H2 d = some (exd d fs) ∧ H1 d = none ∧ Q (.ref C) (some d) (upd (del H2 a) d (.xd fs))) (fun _ _ _ => False) := by
  refine ⟨by show 1 ≤ 1000; decide, fun a ha => ⟨a, v, rfl, upd_same, fun d hd hne => ⟨rfl, d, [(fld, v)], upd_same, ?_, ?_, ?_⟩⟩⟩
  · rw [upd_ne hne, upd_same]
  · rw [upd_ne hne] at hd; exact hd
  · have hd' : H1 d = none := by rw [upd_ne hne] at hd; exact hd
    have e : upd (del (upd (upd (upd H1 a (exo a C none)) d (exd d [(fld, v)])) a (exo a C (some d))) a) d (.xd [(fld, v)]) = upd H1 d (.xd [(fld, v)]) := by
      funext b
      by_cases h1 : b = d
      · rw [h1, upd_same, upd_same]
      · rw [upd_ne h1, upd_ne h1]
        by_cases h2 : b = a
        · rw [h2, del_same, ha]
        · rw [del_ne h2, upd_ne h2, upd_ne h1, upd_ne h2]
    rw [e]
    exact q d hd'
end Ts
namespace Ts
open PySem PySem.Spec PyProof.Rows L2 L2H LamX
/-! ## lists of truths: how often, and where first -/
theorem vals_bls : ∀ {bs : List Bool} {us : List Value}, Vals (bs.map V.bl) us → us = bs.map Value.bool
  | [], _, r => by cases r; rfl
  | b :: bs, _, r => by
    cases r with
    | cons q rest => rw [vals_bls rest]; show _ = Value.bool b :: _; rw [show _ = Value.bool b from q]
def rCountB (K : PySem.W.Frag) : V → List V → Hp → VK → Prop := fun x xs H Q => ∃ (p : Addr) (bs : List Bool), x = .ref p ∧ xs = [.bl true] ∧ SqL K H p (bs.map V.bl) ∧ Q (.int ((bs.countP id : Nat) : Int)) H
theorem mt_countB {X : Cx} : MtR X "list.count" (rCountB X.K) := by
  intro pins s σ H x xs v us Q I rx rs h
  obtain ⟨p, bs, rfl, rfl, hq, q⟩ := h
  cases rx
  cases rs with
  | cons q1 rest =>
    cases rest
    cases q1
    obtain ⟨its, r, ⟨⟨cls, dd, dt, sl⟩, n, ho, hc, hd, hdat⟩, hz⟩ := I.list hq
    have e1 := vals_bls r
    subst e1
    dsimp only at hc hd hdat
    subst hc hd hdat
    refine call_meets PySem.F.slot_list_count ⟨_, ho, rfl⟩ PySem.F.entry_list_count (PySem.F.args_list_count_2 _ _) (SeqAt.list_countAt p (bs.map Value.bool).toArray n none sl (.bool true) (fun v => match v with | .bool b => b | _ => false)) ⟨ho, fun y hy => ?_, ?_⟩
    · have hy' : y ∈ bs.map Value.bool := by simpa using hy
      obtain ⟨b, _, rfl⟩ := List.mem_map.mp hy'
      have := SeqAt.EqAt.bool_bool (A := X.A.in1) (s := s) b true
      cases b <;> exact this
    · refine ⟨.int _, H, I.tok _, ⟨_, rfl⟩, ?_⟩
      have e : List.countP (fun v => match v with | Value.bool b => b | _ => false) (bs.map Value.bool).toArray.toList = bs.countP id := by
        rw [List.toList_toArray, List.countP_map]; rfl
      rw [e]; exact q
def rIndexB (K : PySem.W.Frag) : V → List V → Hp → VK → Prop := fun x xs H Q => ∃ (p : Addr) (bs : List Bool) (j : Nat), x = .ref p ∧ xs = [.bl true] ∧ SqL K H p (bs.map V.bl) ∧ bs[j]? = some true ∧ (∀ m, m < j → bs[m]? ≠ some true) ∧ Q (.int (j : Int)) H
theorem mt_indexB {X : Cx} : MtR X "list.index" (rIndexB X.K) := by
  intro pins s σ H x xs v us Q I rx rs h
  obtain ⟨p, bs, j, rfl, rfl, hq, hj, hno, q⟩ := h
  cases rx
  cases rs with
  | cons q1 rest =>
    cases rest
    cases q1
    obtain ⟨its, r, ⟨⟨cls, dd, dt, sl⟩, n, ho, hc, hd, hdat⟩, hz⟩ := I.list hq
    have e1 := vals_bls r
    subst e1
    dsimp only at hc hd hdat
    subst hc hd hdat
    obtain ⟨jl, je⟩ := List.getElem?_eq_some_iff.mp hj
    rw [List.length_map] at hz
    have at' : ∀ (m : Nat) (hm : m < (bs.map Value.bool).toArray.size), (bs.map Value.bool).toArray[m] = Value.bool (bs[m]'(by simpa using hm)) := fun m hm => by simp
    have hj2 : j < (bs.map Value.bool).toArray.size := by simpa using jl
    have j63 : (j : Int) < 2 ^ 63 - 1 := by
      have : sizeLine < 2 ^ 62 := by decide
      omega
    refine call_meets PySem.F.slot_list_index ⟨_, ho, rfl⟩ PySem.F.entry_list_index (PySem.F.args_list_index_2 _ _) (SeqAt.list_indexAt p (bs.map Value.bool).toArray n none sl (.bool true) (fun v => match v with | .bool b => b | _ => false) j hj2 j63 (by rw [at']; exact je) (fun m hm hmj => ?_)) ⟨ho, fun y hy => ?_, ?_⟩
    · rw [at' m hm]
      have ml : m < bs.length := by simpa using hm
      have := hno m hmj
      rw [List.getElem?_eq_getElem ml] at this
      show bs[m] = false
      cases e : bs[m] with
      | false => rfl
      | true => exact absurd (by rw [e]) this
    · have hy' : y ∈ bs.map Value.bool := by simpa using hy
      obtain ⟨b, _, rfl⟩ := List.mem_map.mp hy'
      have := SeqAt.EqAt.bool_bool (A := X.A.in1) (s := s) b true
      cases b <;> exact this
    · exact ⟨.int _, H, I.tok _, ⟨_, rfl⟩, q⟩
/-! ## the classes of errors that the laws tell apart -/
structure Cls11 where
  (t n m s g l o f u y a : Addr)
abbrev Cls11.list (c : Cls11) : List Addr := [c.t, c.n, c.m, c.s, c.g, c.l, c.o, c.f, c.u, c.y, c.a]
structure Bas3 where
  (v w x : Addr)
structure ErrN (mg : Str → Option Value) (c : Cls11) (b : Bas3) : Prop where
  InvalidText : mg "InvalidText" = some (.ref c.t)
  InvalidNumber : mg "InvalidNumber" = some (.ref c.n)
  InvalidName : mg "InvalidName" = some (.ref c.m)
  InvalidShare : mg "InvalidShare" = some (.ref c.s)
  InvalidStanding : mg "InvalidStanding" = some (.ref c.g)
  NotALot : mg "NotALot" = some (.ref c.l)
  InvalidLog : mg "InvalidLog" = some (.ref c.o)
  InvalidForms : mg "InvalidForms" = some (.ref c.f)
  UnknownName : mg "UnknownName" = some (.ref c.u)
  TooMany : mg "TooMany" = some (.ref c.y)
  Alone : mg "Alone" = some (.ref c.a)
  WrongValue : mg "WrongValue" = some (.ref b.v)
  WrongName : mg "WrongName" = some (.ref b.w)
  NoAnswer : mg "NoAnswer" = some (.ref b.x)
  zValueError : mg "ValueError" = none
  zLookupError : mg "LookupError" = none
  zArithmeticError : mg "ArithmeticError" = none
/-- the class at C is the one of the index i -/
structure IsErr (K : PySem.W.Frag) (c : Cls11) (b : Bas3) (C : Addr) (i : Nat) : Prop where
  i11 : i < 11
  k : ∀ j a, c.list[j]? = some a → PySem.W.kitOne K (.ref C) (.ref a) = some (decide (j = i))
  bv : PySem.W.kitOne K (.ref C) (.ref b.v) = some (decide (i < 8))
  bw : PySem.W.kitOne K (.ref C) (.ref b.w) = some (decide (i = 8))
  bx : PySem.W.kitOne K (.ref C) (.ref b.x) = some (decide (8 < i))
  pv : PySem.W.kitOne K (.ref C) (.type "ValueError") = some (decide (i < 8))
  pw : PySem.W.kitOne K (.ref C) (.type "LookupError") = some (decide (i = 8))
  px : PySem.W.kitOne K (.ref C) (.type "ArithmeticError") = some (decide (8 < i))
def errWords : List Str := ["text", "number", "name", "share", "standing", "lot", "log", "forms", "unknown", "many", "alone"]
abbrev basB (i : Nat) : List Bool := [decide (i < 8), decide (i = 8), decide (8 < i)]
def spBases (K : PySem.W.Frag) (c : Cls11) (b : Bas3) (p : Addr × Obj) : Sp := fun vs H Q _ => ∃ (C : Addr) (fs : List (Str × V)) (i : Nat), vs = [.ref p.1] ∧ ExcK K C ∧ ErrAt H p C fs ∧ IsErr K c b C i ∧
  ∀ (l : Addr) (H' : Hp), Same H H' → H' l = some (.lst ((basB i).map V.bl)) → Q (.ref l) H'
def spClass (K : PySem.W.Frag) (c : Cls11) (b : Bas3) (p : Addr × Obj) : Sp := fun vs H Q _ => ∃ (C : Addr) (fs : List (Str × V)) (i : Nat) (t : Str), vs = [.ref p.1] ∧ ExcK K C ∧ ErrAt H p C fs ∧ IsErr K c b C i ∧ errWords[i]? = some t ∧
  ∀ (H' : Hp), Same H H' → Q (.str t) H'
theorem hu64H {k : Nat} {A : Around} (h : RoomH k A) : A.units + 64 < cLine := by have := h.un; omega
theorem shaped_b3 : ∀ a b c : Bool, SeqAt.shaped (.list [.bool a, .bool b, .bool c]) = true := by decide
theorem eqv_b3 : ∀ a b c : Bool, (PyData.list [.bool a, .bool b, .bool c]).eqv (.list [.bool a, .bool b, .bool c]) = true := by decide
def isB (i j : Nat) : Bool := decide (j = i)
abbrev marksB (i : Nat) : List Bool := [isB i 0, isB i 1, isB i 2, isB i 3, isB i 4, isB i 5, isB i 6, isB i 7, isB i 8, isB i 9, isB i 10]
theorem marks_count {i : Nat} (h : i < 11) : (marksB i).countP id = 1 := by
  have go : ∀ i : Fin 11, (marksB i).countP id = 1 := by decide
  exact go ⟨i, h⟩
theorem marks_at {i : Nat} (h : i < 11) : (marksB i)[i]? = some true := by
  have go : ∀ i : Fin 11, (marksB i)[i.val]? = some true := by decide
  exact go ⟨i, h⟩
theorem marks_no {i m : Nat} (h : i < 11) (hm : m < i) : (marksB i)[m]? ≠ some true := by
  have go : ∀ i m : Fin 11, m.val < i.val → (marksB i)[m.val]? ≠ some true := by decide
  exact go ⟨i, h⟩ ⟨m, by omega⟩ hm
end Ts
namespace Ts
open PySem PySem.Spec PyProof.Rows L2 L2H LamX
/-! ## repr of any data -/
theorem call_reprV {X : Cx} (hg : X.A.guards = some []) (hu : X.A.units + 100 < cLine) : CallR X (.builtin "repr") (fun xs H Q => ∃ v d, xs = [v] ∧ Dp X.K H v d ∧ d.showable = true ∧ d.hasDict = false ∧ d.depth < 60 ∧ d.shown.length ≤ sizeLine ∧ Q (.str d.shown) H) := by
  intro pins s σ H xs us Q I r h
  obtain ⟨v, d, rfl, hd, h1, h2, h3, h4, q⟩ := h
  cases hd with
  | non =>
    obtain ⟨u, rfl, ru⟩ := vals1 r
    cases ru
    exact PySem.P.repr_of_none ⟨.str _, H, I.tok _, ⟨_, rfl⟩, q⟩
  | bl b =>
    obtain ⟨u, rfl, ru⟩ := vals1 r
    cases ru
    exact PySem.P.repr_of_bool ⟨.str _, H, I.tok _, ⟨_, rfl⟩, q⟩
  | int i =>
    obtain ⟨u, rfl, t, rfl⟩ := vals1 r
    exact PySem.P.repr_of_int (of_decide_eq_true h1) ⟨.str _, H, I.tok _, ⟨_, rfl⟩, q⟩
  | str x =>
    obtain ⟨u, rfl, t, rfl⟩ := vals1 r
    exact PySem.P.repr_of_str ⟨.str _, H, I.tok _, ⟨_, rfl⟩, q⟩ h4
  | lst a1 a2 => exact call_reprD hg hu pins s σ H _ _ Q I r ⟨_, _, rfl, .lst a1 a2, h1, h2, h3, h4, q⟩
  | tup a1 a2 => exact call_reprD hg hu pins s σ H _ _ Q I r ⟨_, _, rfl, .tup a1 a2, h1, h2, h3, h4, q⟩
end Ts
namespace Ts
open PySem PySem.Spec PyProof.Rows L2 L2H LamX
theorem hu100H {k : Nat} {A : Around} (h : RoomH k A) : A.units + 100 < cLine := by have := h.un; omega
/-- what repr says of a value -/
def ShownV (K : PySem.W.Frag) (H : Hp) (v : V) (t : Str) : Prop := ∃ d, Dp K H v d ∧ d.showable = true ∧ d.hasDict = false ∧ d.depth < 60 ∧ d.shown.length ≤ sizeLine ∧ t = d.shown
theorem ShownV.mono {K : PySem.W.Frag} {H H' : Hp} {v : V} {t : Str} (h : ShownV K H v t) (s : Same H H') : ShownV K H' v t := by
  obtain ⟨d, h1, h2⟩ := h
  exact ⟨d, h1.mono s, h2⟩
/-- the field that an error keeps -/
def fieldOf (i : Nat) : Str := if i = 6 ∨ i = 7 then "index" else if i = 9 then "limit" else "given"
end Ts
namespace Ts
open PySem PySem.Spec PyProof.Rows L2 LamX
/-! ## the law is called, no repr around, where lambdas are made: tables of code are told, too -/
def tellT (ts : List Addr) (yes : Bool) (a : Addr) (vs : List Value) (ns : List Int) : Hp := fun c => if c ∈ ts then some (.tbl #[]) else tells yes a vs ns c
theorem end_GT {P : Program} {w : World} {K : PySem.W.Frag} {mg mb : Str → Option Value} {k : Nat} {fa a : Addr} {cs : List (Addr × Addr)} {fd : FuncData} {x : Str} {sp : Sp} {t : Shared} {vs : List Value} {ns : List Int}
    (inK : K.In t.heap) (nsM : t.heap.Ns mainGlobals mg) (nsB : t.heap.Ns builtinsNs mb) (boot : ∀ y : Str, y ≠ "__name__" → mb y = bootBuiltins y) (lim : t.heap.NoLimit) (gens : t.gens = #[])
    (hT : ∀ p ∈ cs, t.heap.get? p.2 = some { cls := .none, data := .fields #[] }) (nT : ∀ p ∈ cs, K.lookup p.2 = none) (C : ∀ p ∈ cs, PySem.W.CodeHd t.heap p.1 p.2)
    (hbm : ∃ bm ob, mg "__builtins__" = some (.ref bm) ∧ bm ≠ builtinsNs ∧ t.heap.get? bm = some ob ∧ ob.cls = .type "module" ∧ ob.dict = some builtinsNs ∧ ob.data = .plain)
    (at_ : t.heap.get? a = some { cls := .type "list", data := .seq vs.toArray }) (allInt : IntsAre vs ns) (few : ns.length ≤ sizeLine) (room : Room k callerA)
    (G : ∀ base : Heap, K.In base → base.Ns mainGlobals mg → (∀ p ∈ cs, TabB base mg p.1 p.2) → FnG P w K mg base k fa fd [x] sp) (bind : ∀ (s : Shared) (u : Value), BindsTo s fd ⟨[u], []⟩ [(x, u)])
    (good : ∀ H : Hp, (∀ p ∈ cs, H p.2 = some (.tbl #[])) → SqL K H a (ns.map V.int) → sp [.ref a] H (fun v _ => v = .bl true) E0) :
    codeAny (model P w) callerA (.call (.ref fa) ⟨[.ref a], []⟩) (fun r z => r = .ok (.ret (.bool true)) ∧ OldK t.heap z.heap ∧ z.os = t.os ∧ AllBare z.gens) t := by
  have vals := vals_ints allInt
  have isT : ∀ c ∈ cs.map Prod.snd, t.heap.get? c = some { cls := .none, data := .fields #[] } ∧ K.lookup c = none := fun c hc => by
    obtain ⟨p, hp, rfl⟩ := List.mem_map.mp hc
    exact ⟨hT p hp, nT p hp⟩
  have aT : a ∉ cs.map Prod.snd := fun z => by
    have := (isT a z).1
    rw [at_] at this
    cases this
  generalize hy : (K.lookup a).isNone = yes
  have H0 : ∃ H, H = tellT (cs.map Prod.snd) yes a vs ns := ⟨_, rfl⟩
  obtain ⟨H, eH⟩ := H0
  have told : ∀ {c : Addr} {u : HO}, H c = some u → (c ∈ cs.map Prod.snd ∧ u = .tbl #[]) ∨ (c = a ∧ yes = true ∧ u = .frz { cls := .type "list", data := .seq vs.toArray } (.lst (ns.map V.int))) := fun {c u} h => by
    rw [eH] at h
    unfold tellT at h
    split at h
    · exact .inl ⟨by assumption, (Option.some.inj h).symm⟩
    · exact .inr (tells_at h)
  have tabs : ∀ p ∈ cs, H p.2 = some (.tbl #[]) := fun p hp => by
    rw [eH]; unfold tellT
    rw [if_pos (List.mem_map.mpr ⟨p, hp, rfl⟩)]
  have okH : HOk P w H t.heap := fun c u h => by
    rcases told h with ⟨h1, rfl⟩ | ⟨rfl, _, rfl⟩
    · exact (isT c h1).1
    · exact ⟨at_, by rw [List.length_map]; exact few, vs, _, vals, at_⟩
  have seqH : SqL K H a (ns.map V.int) := by
    cases e : K.lookup a with
    | none =>
      have yt : yes = true := by rw [← hy, e]; rfl
      refine .inl (.inr ⟨{ cls := .type "list", data := .seq vs.toArray }, ?_⟩)
      rw [eH]; unfold tellT tells
      rw [if_neg aT, if_pos rfl, if_pos yt]
    | some o =>
      have eo := inK a o e
      rw [at_] at eo
      cases eo
      exact .inr ⟨_, vs.toArray, _, e, rfl, rfl, rfl, by rw [List.size_toArray, allInt.length]; exact few, by simpa using vals⟩
  have still : ∀ {c : Addr} {o : Obj}, t.heap.get? c = some o → H c = none → (hidT t.heap H).get? c = some o := fun e n => hidT_get e n
  -- what is told is a list or a table
  have off : ∀ {c : Addr} {o : Obj}, t.heap.get? c = some o → (∀ vs n, o.data ≠ .seq vs n) → o.data ≠ .fields #[] → H c = none := fun {c o} e h1 h2 => by
    cases hc : H c with
    | none => rfl
    | some u =>
      rcases told hc with ⟨h3, _⟩ | ⟨rfl, _, _⟩
      · have := (isT c h3).1
        rw [e] at this
        cases this
        exact absurd rfl h2
      · rw [at_] at e
        cases e
        exact absurd rfl (h1 _ _)
  have dicts : ∀ {c : Addr} {m : Str → Option Value}, t.heap.Ns c m → (hidT t.heap H).Ns c m := by
    rintro c m ⟨o, es, ep, e, d, r⟩
    exact ⟨o, es, ep, still e (off e (fun vs n z => by rw [d] at z; cases z) (fun z => by rw [d] at z; cases z)), d, r⟩
  have kept : K.In (hidT t.heap H) := fun c o e => still (inK c o e) (by
    cases hc : H c with
    | none => rfl
    | some u =>
      rcases told hc with ⟨h3, _⟩ | ⟨rfl, h2, _⟩
      · have := (isT c h3).2
        rw [e] at this; cases this
      · rw [← hy, e] at h2; cases h2)
  have limits : (hidT t.heap H).NoLimit := by
    obtain ⟨mc, h1, h2⟩ := lim
    exact ⟨mc, dicts h1, h2⟩
  have TB : ∀ p ∈ cs, TabB (hidT t.heap H) mg p.1 p.2 := fun p hp => by
    have hTp := hT p hp
    refine ⟨?_, ?_, ?_⟩
    · obtain ⟨o, us, file, tf, flags, tg, inF, text, tt, e1, r1, r2, r3, r4⟩ := C p hp
      refine ⟨o, us, file, tf, flags, tg, inF, text, tt, still e1 (off e1 (fun vs n z => by rw [r2] at z; cases z) (fun z => ?_)), r1, r2, r3, r4⟩
      rw [r2] at z
      cases z
      simp at r3
    · obtain ⟨bm, ob, b1, b2, b3, b4, b5, b6⟩ := hbm
      refine ⟨bm, ob, b1, b2, fun q => ?_, fun q => ?_, still b3 (off b3 (fun vs n z => by rw [b6] at z; cases z) (fun z => by rw [b6] at z; cases z)), b4, b5, b6⟩
      · obtain ⟨o, es, ep, e, hd, _⟩ := nsM
        rw [q, e] at b3
        cases b3
        rw [hd] at b6; cases b6
      · rw [q, hTp] at b3
        cases b3
        cases b6
    · intro z
      obtain ⟨o, es, ep, e, hd, _⟩ := nsM
      rw [z, hTp] at e
      cases e
      cases hd
  have start0 : Env0 P w K mg (hidT t.heap H) callerA [] t H :=
    { frames := rfl, mod := ⟨kept, dicts nsM, ⟨mb, dicts nsB, boot⟩, limits⟩, bs := fun c o e => of_hidT e, bsz := Nat.le_of_eq (hidT_size _ _), funs := trivial, frf := fun c hc => absurd (show c ∈ ([] : List Addr) from hc) (by simp), hok := okH, bare := .of_eq gens }
  refine codeAny_mono ((G _ kept (dicts nsM) TB).go callerA [] t H [.ref a] [.ref a] _ rfl room start0 (bind t (.ref a)) (.cons rfl .nil) (good H tabs seqH)) fun r z h => ?_
  cases r with
  | error e => exact h.elim
  | ok fl => cases fl with
    | next => exact h.elim
    | brk => exact h.elim
    | cont => exact h.elim
    | ret u =>
      obtain ⟨v, H2, g1, g2, un, ok2, rv, ev⟩ := h
      have ev2 : v = .bl true := ev
      subst ev2
      obtain rfl : u = Value.bool true := rv
      have key : ∀ c o, c ∉ cs.map Prod.snd → t.heap.get? c = some o → z.heap.get? c = some o := fun c o nb e => by
        cases hc : H c with
        | none => exact un.keep c o e hc (fun m => absurd (show c ∈ ([] : List Addr) from m) (by simp)) (by simp)
        | some u =>
          rcases told hc with ⟨h3, _⟩ | ⟨rfl, _, rfl⟩
          · exact absurd h3 nb
          · obtain ⟨e2, _⟩ := ok2 _ _ (un.frzs _ _ _ hc)
            rw [at_] at e
            rw [← Option.some.inj e]
            exact e2
      have grown : ∀ p ∈ cs, ∃ more, z.heap.get? p.2 = some { cls := .none, data := .fields (#[] ++ more) } := fun p hp => by
        obtain ⟨more, e⟩ := un.tbls p.2 #[] (tabs p hp)
        exact ⟨more, ok2 _ _ e⟩
      refine ⟨rfl, ⟨fun c o e => ?_, fun c o e => ?_⟩, g1, g2⟩
      · by_cases hb : c ∈ cs.map Prod.snd
        · obtain ⟨p, hp, rfl⟩ := List.mem_map.mp hb
          obtain ⟨more, hm⟩ := grown p hp
          have e' := hT p hp
          rw [e] at e'
          cases e'
          refine .inr (.inl ⟨Heap.TableAt.isCodeTable (PySem.W.CodeHd.tab (C p hp) (hT p hp)), rfl, #[], more, rfl, hm⟩)
        · exact .inl (key c o hb e)
      · by_cases hb : c ∈ cs.map Prod.snd
        · obtain ⟨p, hp, rfl⟩ := List.mem_map.mp hb
          obtain ⟨more, hm⟩ := grown p hp
          exact ⟨_, hm⟩
        · exact ⟨o, key c o hb e⟩
end Ts
namespace Ts
open PySem PySem.Spec PyProof.Rows L2 L2H LamX
/-! ## defs that make lambdas: their code is known -/
/-- a def that stands at the top under its name, its code at c -/
structure DefAtC (K : PySem.W.Frag) (mg : Str → Option Value) (x : Str) (st : Stmt) (c : Addr) : Prop where
  ex : ∃ f fd, Fun K x x st f fd ∧ mg x = some (.ref f) ∧ fd.code = .ref c
theorem DefAtC.hasG {P : Program} {w : World} {K : PySem.W.Frag} {mg : Str → Option Value} {base : Heap} {x : Str} {st : Stmt} {k : Nat} {c : Addr} {ps : List Str} {sp : Sp} (D : DefAtC K mg x st c)
    (hb : ∀ (kV doc pm : Value) (an : Option Addr) (cdv ct : Value) (us : List Value), us.length = ps.length → bindArgs (PySem.W.fnOf x x (defArgs st) (defBody st) (defScope st) .none kV doc pm an cdv ct) ⟨us, []⟩ = pure (ps.zip us))
    (ok : ∀ f fd, Fun K x x st f fd → fd.code = .ref c → FnG P w K mg base k f fd ps sp) : HasG P w K mg base k x ps sp := by
  obtain ⟨f, fd, F, hm, hc⟩ := D.ex
  exact ⟨f, fd, ok f fd F hc, hm, F.kp, F.binds hb⟩
theorem fun_gc {P : Program} {w : World} {K : PySem.W.Frag} {mg : Str → Option Value} {base : Heap} {x qual : Str} {st : Stmt} {f c : Addr} {fd : FuncData} {N ps : List Str} {k : Nat} {sp : Sp} (F : Fun K x qual st f fd) (hcode : fd.code = .ref c) (S : FnScope N ps (defScope st))
    (ln : ∀ vs H Q E, sp vs H Q E → vs.length = ps.length)
    (hb : ∀ (A : Around) (out : List Env) (s : Shared) (H : Hp) (vs : List V) (Q : VK), A.guards = some [] → Room k (A.deeper (envOfC qual (defScope st) s.heap.objs.size f (.ref c))) → sp vs H Q E0 →
      ∃ t, PSs (cxOf CX0 P w K mg base N qual (defScope st) f (.ref c) A out s H E0).nox (defBody st) t ∧ t { nx := fun _ H' => Q .non H', rt := Q } (start N vs) H) : FnG P w K mg base (k + 1) f fd ps sp := by
  obtain ⟨oc, od, kV, doc, pm, an, cdv, ct, osl, rfl, lk, hcd⟩ := F.ex
  have ec : cdv = .ref c := hcode
  subst ec
  refine ⟨ln, fun A out s H us vs Q hg hr e0 hbd r q => ?_⟩
  have kin : K.In s.heap := e0.mod.kin.keeps fun b o e => (e0.bs b o e).1
  have lim : s.heap.NoLimit := e0.mod.nolimit.keeps fun b o e => (e0.bs b o e).1
  have hvl : vs.length = ps.length := ln _ _ _ _ q
  have kinds : ∀ y ∈ ps.zip us, (defScope st).names.lookup y.1 = some .local ∨ ((defScope st).names.lookup y.1 = some .cell ∧ ((cellsFrom (s.heap.objs.size + 1) (defScope st).names []).lookup y.1).isSome = true) := by
    intro y hy
    have hm : y.1 ∈ ps := (List.of_mem_zip (a := y.1) (b := y.2) hy).1
    rcases S.par _ hm with z | z
    · exact Or.inl z
    · exact Or.inr ⟨z, PySem.W.cellsFrom_some _ _ _ (Or.inl z)⟩
  refine codeAny_call_function hr.depth (kin _ _ lk) rfl S.co S.gen rfl (PySem.W.codeRec_of kin hcd) (hbd _ _ _ _ ?_)
  refine wpAny_newFunctionEnv_cells S.kind kinds fun env he s1 ic => ?_
  subst he
  refine ⟨lim.keeps ic.toInCall.keep, codeAny_func ?_⟩
  obtain ⟨t, ht, hq⟩ := hb A out s H vs Q hg (hr.deeper _) q
  have J := inv_start (CX := CX0) (E := E0) S hr.hd e0 hvl r ic
  refine wpAny_mono (ht.nox.run [] s1 (start N vs) H _ J hq) (fun fl s2 z => ?_) fun er s2 z => z
  cases fl with
  | ret u => obtain ⟨v, σ2, H2, J2, rv, q2⟩ := z; exact ⟨v, H2, J2.os, J2.bare, J2.base, J2.hok, rv, q2⟩
  | next => obtain ⟨σ2, H2, J2, q2⟩ := z; exact ⟨V.non, H2, J2.os, J2.bare, J2.base, J2.hok, rfl, q2⟩
  | brk => obtain ⟨_, _, _, z2⟩ := z; exact z2.elim
  | cont => obtain ⟨_, _, _, z2⟩ := z; exact z2.elim
/-! ## the law, where lambdas are made -/
def spLawT (K : PySem.W.Frag) (T : List (Addr × Str)) : Sp := fun vs H Q _ => ∃ (a : Addr) (ns : List Int), vs = [.ref a] ∧ SqL K H a (ns.map V.int) ∧ ns.length ≤ 63 ∧ (∀ p ∈ T, H p.1 = some (.tbl #[])) ∧ ∀ H', Q (.bl true) H'
end Ts
namespace Ts
open PySem PySem.Spec PyProof.Rows L2 L2H LamX
/-! ## defs that raise -/
section
variable (P : Program) (w : World) (K : PySem.W.Frag) (mg : Str → Option Value) (base : Heap)
structure HasX (k : Nat) (x : Str) (ps : List Str) (sp : Sp) : Prop where
  ex : ∃ f fd, FnOk P w K mg base (L2.CX P w) k f fd ps sp ∧ mg x = some (.ref f) ∧ PySem.W.keepIn K (.ref f) = true ∧ Binds K fd ps []
/-- .. called with names alone, given in another order -/
structure HasQX (k : Nat) (x : Str) (ps ks : List Str) (turned : {α : Type} → List α → List α) (sp : Sp) : Prop where
  ex : ∃ f fd, FnOk P w K mg base (L2.CX P w) k f fd ps sp ∧ mg x = some (.ref f) ∧ PySem.W.keepIn K (.ref f) = true ∧ ∀ (s : Shared) (ws : List Value), ws.length = ks.length → BindsTo s fd ⟨[], ks.zip ws⟩ (ps.zip (turned ws))
  rel : ∀ {vs : List V} {us : List Value}, Vals vs us → Vals (turned vs) (turned us)
end
section
variable {P : Program} {w : World} {K : PySem.W.Frag} {mg : Str → Option Value} {base : Heap}
theorem DefAt.hasX {x : Str} {st : Stmt} {k : Nat} {ps : List Str} {sp : Sp} (D : DefAt K mg x st)
    (hb : ∀ (kV doc pm : Value) (an : Option Addr) (cdv ct : Value) (us : List Value), us.length = ps.length → bindArgs (PySem.W.fnOf x x (defArgs st) (defBody st) (defScope st) .none kV doc pm an cdv ct) ⟨us, []⟩ = pure (ps.zip us))
    (ok : ∀ f fd, Fun K x x st f fd → FnOk P w K mg base (L2.CX P w) k f fd ps sp) : HasX P w K mg base k x ps sp := by
  obtain ⟨f, fd, F, hm⟩ := D.ex
  exact ⟨f, fd, ok f fd F, hm, F.kp, F.binds hb⟩
theorem DefAt.hasQX {x : Str} {st : Stmt} {k : Nat} {ps : List Str} (ks : List Str) (turned : {α : Type} → List α → List α) {sp : Sp} (D : DefAt K mg x st) (rel : ∀ {vs : List V} {us : List Value}, Vals vs us → Vals (turned vs) (turned us))
    (hb : ∀ (kV doc pm : Value) (an : Option Addr) (cdv ct : Value) (ws : List Value), ws.length = ks.length → bindArgs (PySem.W.fnOf x x (defArgs st) (defBody st) (defScope st) .none kV doc pm an cdv ct) ⟨[], ks.zip ws⟩ = pure (ps.zip (turned ws)))
    (ok : ∀ f fd, Fun K x x st f fd → FnOk P w K mg base (L2.CX P w) k f fd ps sp) : HasQX P w K mg base k x ps ks turned sp := by
  obtain ⟨f, fd, F, hm⟩ := D.ex
  refine ⟨⟨f, fd, ok f fd F, hm, F.kp, fun s ws hl => ?_⟩, rel⟩
  obtain ⟨oc, od, kV, doc, pm, an, cdv, ct, osl, rfl, lk, hcd⟩ := F.ex
  exact .of_eq (hb kV doc pm an cdv ct ws hl)
end
/-- f(..), f a def that may raise -/
theorem pe_x {X : Cx} {k : Nat} {x : Str} {ps : List Str} {sp : Sp} {W : WX} {p pos : Pos} {e : Expr} {es : List Expr} {t : TA} (h : HasX X.prog X.w X.K X.mg X.base k x ps sp) (hr : Room k X.A) (tk : Takes X W) (ha : PA X (e :: es) t) (hg : Gl X x := by rfl)
    (hdb : (x == ("__debug__" : Str)) = false := by decide) (he : starEach (e :: es) X.env = (false, eval e X.env) :: starEach es X.env := by rfl) (hpl : (backTo pos (starEach es X.env)).any (·.1) = false := by rfl) :
    PE X (.Call (.Name x p) (e :: es) [] pos) (tCallS sp (WE W) t) := by
  obtain ⟨f, fd, F, hm, hk, hb⟩ := h.ex
  exact pe_callS F hr hg hm hk hb (fun σ => passAt tk σ) ha hdb he hpl
def tCallQX (sp : Sp) (m : Nat) (turned : List V → List V) (W : WX) (tk : TA) : TE := fun σ H Q => tk σ H fun zs H2 => zs.length = m ∧ sp (turned zs) H2 Q (WE W σ)
theorem pe_hqx {X : Cx} {k : Nat} {x : Str} {ps ks : List Str} {turned : {α : Type} → List α → List α} {sp : Sp} {W : WX} {p pos : Pos} {kws : List Keyword} {tk : TA} (h : HasQX X.prog X.w X.K X.mg X.base k x ps ks turned sp) (hr : Room k X.A) (tkW : Takes X W) (hkw : PK X kws tk) (hg : Gl X x := by rfl)
    (hdb : (x == ("__debug__" : Str)) = false := by decide) (hall : (backToKw pos (keywordEach kws X.env)).all (·.1.isSome) = true := by rfl) (hks : (backToKw pos (keywordEach kws X.env)).filterMap (·.1) = ks := by rfl)
    (hpl : ((backTo pos (starEach [] X.env)).any (·.1) || (backToKw pos (keywordEach kws X.env)).any (·.1.isNone)) = false := by rfl) :
    PE X (.Call (.Name x p) [] kws pos) (tCallQX sp ks.length turned W tk) := by
  obtain ⟨f, fd, F, hm, hk, hb⟩ := h.ex
  refine ⟨fun pins s σ H Q I q0 => ?_⟩
  refine wpAny_Call_Name_kw (ld_glob I hg hm ?_ hdb)
  refine PySem.W.callWith_KW0 (h₀ := X.base) I.ok.mod.kin hk hall ?_ hpl
  refine thn (hkw.run pos pins s σ H _ I q0) fun ws s2 ⟨zs, H2, I2, rz, l2, q2⟩ => ⟨I2.kIn, ?_⟩
  rw [hks]
  have lw : ws.length = ks.length := by rw [← rz.length]; exact l2
  refine wpAny_call (codeAny_mono (F.run X.A X.stack s2 H2 ⟨[], ks.zip ws⟩ (turned ws) (turned zs) Q (WE W σ) hr I2.env0 (hb s2 ws lw) (h.rel rz) q2) fun r s' hq => ?_)
  cases r with
  | error er => exact passAt tkW σ pins H2 s2 er s' I2 hq
  | ok fl => cases fl with
    | ret u => exact I2.after hq
    | next => exact hq.elim
    | brk => exact hq.elim
    | cont => exact hq.elim
/-! ## values of any kind -/
/-- what a number is asked: o is the number, none what is no integer -/
def KindV (K : PySem.W.Frag) (H : Hp) (v : V) : Option Int → Prop
  | some i => v = .int i
  | none => ∃ T, T ∈ ["bool", "str", "NoneType", "list", "tuple", "dict"] ∧ TyX K H v (.type T)
theorem TyX.mono {K : PySem.W.Frag} {H H' : Hp} {x : V} {t : Value} (h : TyX K H x t) (s : Same H H') : TyX K H' x t := by
  cases h with
  | base b => exact .base (match b with
    | .non => .non
    | .bl x => .bl x
    | .int i => .int i
    | .str x => .str x
    | .flt x => .flt x
    | .lst e => .lst (s _ _ e)
    | .frz e => .frz (s _ _ e)
    | .tup e => .tup (s _ _ e)
    | .dK e => .dK (s _ _ e)
    | .dT e => .dT (s _ _ e)
    | .ins e a b c d f => .ins (s _ _ e) a b c d f)
  | byt b => exact .byt b
  | set e => exact .set (s _ _ e)
  | kList e c => exact .kList e c
  | kTuple e c => exact .kTuple e c
  | kDict e c => exact .kDict e c
  | fTuple e => exact .fTuple (s _ _ e)
  | fDict e => exact .fDict (s _ _ e)
theorem KindV.mono {K : PySem.W.Frag} {H H' : Hp} {v : V} {o : Option Int} (h : KindV K H v o) (s : Same H H') : KindV K H' v o := by
  cases o with
  | some i => exact h
  | none => obtain ⟨T, h1, h2⟩ := h; exact ⟨T, h1, TyX.mono h2 s⟩
def inRg (o : Option Int) (lo hi : Int) : Bool := match o with
  | some i => decide (lo ≤ i ∧ i ≤ hi)
  | none => false
def spIsNumberFromA (K : PySem.W.Frag) : Sp := fun vs H Q _ => ∃ (v : V) (lo : Int) (o : Option Int), vs = [v, .int lo] ∧ KindV K H v o ∧ Q (.bl (match o with | some i => decide (lo ≤ i) | none => false)) H
def spIsNumberA (K : PySem.W.Frag) : Sp := fun vs H Q _ => ∃ (v : V) (lo hi : Int) (o : Option Int), vs = [v, .int lo, .int hi] ∧ KindV K H v o ∧ Q (.bl (inRg o lo hi)) H
/-- an error of the class at C that keeps v under fld -/
def Raise1 (C : Addr) (fld : Str) (v : V) (H : Hp) (E : XK) : Prop := ∀ (H' : Hp) (d : Addr), Same H H' → H' d = none → E (.ref C) (some d) (upd H' d (.xd [(fld, v)]))
def spCheckNumberX (K : PySem.W.Frag) (C : Addr) : Sp := fun vs H Q E => ∃ (v : V) (lo hi : Int) (o : Option Int), vs = [v, .int lo, .int hi] ∧ KindV K H v o ∧ (inRg o lo hi = true → Q .non H) ∧ (inRg o lo hi = false → Raise1 C "given" v H E)
/-- a thing that may be a log: none what is no tuple, else what its elements are -/
def ThingAt (K : PySem.W.Frag) (H : Hp) (v : V) : Option (List (Option Int)) → Prop
  | some os => ∃ (p : Addr) (xs : List V), v = .ref p ∧ H p = some (.tup xs) ∧ xs.length = os.length ∧ ∀ (i : Nat) (x : V) (o : Option Int), xs[i]? = some x → os[i]? = some o → KindV K H x o
  | none => ∃ T, T ∈ ["int", "bool", "str", "NoneType", "list", "dict"] ∧ TyX K H v (.type T)
theorem ThingAt.mono {K : PySem.W.Frag} {H H' : Hp} {v : V} {t : Option (List (Option Int))} (h : ThingAt K H v t) (s : Same H H') : ThingAt K H' v t := by
  cases t with
  | none => obtain ⟨T, h1, h2⟩ := h; exact ⟨T, h1, TyX.mono h2 s⟩
  | some os => obtain ⟨p, xs, h1, h2, h3, h4⟩ := h; exact ⟨p, xs, h1, s _ _ h2, h3, fun i x o a b => (h4 i x o a b).mono s⟩
end Ts
namespace Ts
open PySem PySem.Spec PyProof.Rows L2 L2H LamX
/-! ## a block whose first statement always leaves -/
theorem pss_stop {X : Cx} {st : Stmt} {rest : List Stmt} {t : TS} (h1 : PS X st t) : PSs X (st :: rest) (fun D σ H => t { D with nx := fun _ _ => False } σ H) := by
  refine ⟨fun pins s σ H D I h => ?_⟩
  refine wpAny_execs_cons (thn (h1.run pins s σ H { D with nx := fun _ _ => False } I h) fun f s1 q => ?_)
  cases f with
  | next =>
    obtain ⟨σ', H', I', q⟩ := q
    exact q.elim
  | ret v => exact q
  | brk => exact q
  | cont => exact q
section
variable {P : Program} {w : World} {K : PySem.W.Frag} {mg : Str → Option Value} {base : Heap}
/-- one promise where nothing is raised, one where something is -/
theorem FnOk.both {k : Nat} {f : Addr} {fd : FuncData} {ps : List Str} {sp0 spE sp : Sp} (F0 : FnOk P w K mg base CX0 k f fd ps sp0) (FE : FnOk P w K mg base (L2.CX P w) k f fd ps spE) (h : ∀ vs H Q E, sp vs H Q E → sp0 vs H Q E ∨ spE vs H Q E) :
    FnOk P w K mg base (L2.CX P w) k f fd ps sp := by
  refine ⟨fun vs H Q E q => ?_, fun A outer s H args us vs Q E hr he hb hv hs => ?_⟩
  · rcases h _ _ _ _ q with z | z
    · exact F0.len _ _ _ _ z
    · exact FE.len _ _ _ _ z
  · rcases h _ _ _ _ hs with z | z
    · refine codeAny_mono (F0.run A outer s H args us vs Q E hr he hb hv z) fun r s' hq => ?_
      cases r with
      | error e => exact hq.elim
      | ok fl => cases fl <;> exact hq
    · exact FE.run A outer s H args us vs Q E hr he hb hv z
end
/-! ## what stays where draws are made and lambdas -/
/-- all but what stands at b and the tables of code stays -/
def Ext2 (b : Addr) (H H' : Hp) : Prop := ∀ a o, a ≠ b → (∀ ps, o ≠ .tbl ps) → H a = some o → H' a = some o
theorem Ext2.refl {b : Addr} {H : Hp} : Ext2 b H H := fun _ _ _ _ h => h
theorem Ext2.trans {b : Addr} {H H1 H2 : Hp} (x : Ext2 b H H1) (y : Ext2 b H1 H2) : Ext2 b H H2 := fun a o n t h => y a o n t (x a o n t h)
theorem Ext2.but {b : Addr} {H H' : Hp} (x : But b H H') : Ext2 b H H' := fun a o n _ h => x a o n h
theorem Ext2.same {b : Addr} {H H' : Hp} (x : Same H H') : Ext2 b H H' := fun a o _ _ h => x a o h
theorem Ext2.ext {b : Addr} {H H' : Hp} (x : ExtN H H') : Ext2 b H H' := fun a o _ t h => x a o h t
def isTbl : HO → Bool
  | .tbl _ => true
  | _ => false
theorem isTbl_no {o : HO} (h : isTbl o = false) : ∀ ps, o ≠ .tbl ps := fun ps z => by rw [z] at h; cases h
theorem isTbl_of {o : HO} (h : ∀ ps, o ≠ .tbl ps) : isTbl o = false := by
  cases o <;> first | rfl | exact absurd rfl (h _)
/-- the heap without what stands at b and without tables -/
def hid2 (b : Addr) (H : Hp) : Hp := fun a => if a = b then none else match H a with
  | some o => if isTbl o = true then none else some o
  | none => none
theorem hid2_some {b a : Addr} {H : Hp} {o : HO} (h : hid2 b H a = some o) : a ≠ b ∧ (∀ ps, o ≠ .tbl ps) ∧ H a = some o := by
  unfold hid2 at h
  split at h
  · cases h
  · split at h
    · rename_i n _ o' e
      split at h
      · cases h
      · rename_i c
        cases h
        exact ⟨n, isTbl_no (by simpa using c), e⟩
    · cases h
theorem hid2_of {b a : Addr} {H : Hp} {o : HO} (n : a ≠ b) (t : ∀ ps, o ≠ .tbl ps) (h : H a = some o) : hid2 b H a = some o := by
  unfold hid2
  rw [if_neg n, h]
  show (if isTbl o = true then none else some o) = some o
  rw [isTbl_of t]; rfl
theorem hid2_sub {b : Addr} {H : Hp} : Same (hid2 b H) H := fun a o h => (hid2_some h).2.2
theorem Ext2.hid {b : Addr} {H H' : Hp} (x : Ext2 b H H') : Same (hid2 b H) (hid2 b H') := fun a o h => by
  obtain ⟨n, t, e⟩ := hid2_some h
  exact hid2_of n t (x a o n t e)
theorem hid2_but {b : Addr} {H H' : Hp} (x : But b H H') : Same (hid2 b H) (hid2 b H') := (Ext2.but x).hid
theorem hid2_same {b : Addr} {H H' : Hp} (x : Same H H') : Same (hid2 b H) (hid2 b H') := (Ext2.same x).hid
theorem hid2_ext {b : Addr} {H H' : Hp} (x : ExtN H H') : Same (hid2 b H) (hid2 b H') := (Ext2.ext x).hid
theorem Bas.ext {b : Addr} {H H' : Hp} (h : Bas H b) (x : ExtN H H') : Bas H' b := by
  obtain ⟨u, v, w, e⟩ := h
  exact ⟨u, v, w, x _ _ e fun ps z => nomatch z⟩
theorem Bas.ne_tbl {b P : Addr} {H : Hp} {ps : Array Value} (h : Bas H b) (e : H P = some (.tbl ps)) : P ≠ b := fun z => by
  obtain ⟨u, v, w, e2⟩ := h
  rw [z, e2] at e; cases e
theorem tabs_but {T : List (Addr × Str)} {b : Addr} {H H' : Hp} (t : Tabs T H) (hB : Bas H b) (x : But b H H') : Tabs T H' := fun p hp => by
  obtain ⟨ps, h1, h2, h3⟩ := t p hp
  refine ⟨ps, x _ _ (hB.ne_tbl h1) h1, h2, fun pos cv hc => ?_⟩
  obtain ⟨c, e1, e2⟩ := h3 pos cv hc
  refine ⟨c, e1, x _ _ (fun z => ?_) e2⟩
  obtain ⟨u, v, w, e3⟩ := hB
  rw [z, e3] at e2
  unfold CodeO at e2
  cases e2
theorem tabs_lst {T : List (Addr × Str)} {a : Addr} {H H' : Hp} {xs : List V} (t : Tabs T H) (hB : H a = some (.lst xs)) (x : But a H H') : Tabs T H' := fun p hp => by
  obtain ⟨ps, h1, h2, h3⟩ := t p hp
  refine ⟨ps, x _ _ (fun z => by rw [z, hB] at h1; cases h1) h1, h2, fun pos cv hc => ?_⟩
  obtain ⟨c, e1, e2⟩ := h3 pos cv hc
  refine ⟨c, e1, x _ _ (fun z => ?_) e2⟩
  rw [z, hB] at e2
  unfold CodeO at e2
  cases e2
/-! ## values of any kind: what they are by their data -/
def kindD : PyData → Option Int
  | .int i => some i
  | _ => none
theorem SqT.ty {K : PySem.W.Frag} {H : Hp} {a : Addr} {xs : List V} (h : SqT K H a xs) : TyX K H (.ref a) (.type "tuple") := by
  rcases h with (h | ⟨o, h⟩) | ⟨o, its, n, h1, h2, _⟩
  · exact .base (.tup h)
  · exact .fTuple h
  · exact .kTuple h1 h2
theorem SqL.ty {K : PySem.W.Frag} {H : Hp} {a : Addr} {xs : List V} (h : SqL K H a xs) : TyX K H (.ref a) (.type "list") := by
  rcases h with (h | ⟨o, h⟩) | ⟨o, its, n, h1, h2, _⟩
  · exact .base (.lst h)
  · exact .base (.frz h)
  · exact .kList h1 h2
theorem dp_kind {K : PySem.W.Frag} {H : Hp} {v : V} {d : PyData} (h : Dp K H v d) : KindV K H v (kindD d) := by
  cases h with
  | non => exact ⟨"NoneType", by decide, .base .non⟩
  | bl b => exact ⟨"bool", by decide, .base (.bl b)⟩
  | int i => rfl
  | str x => exact ⟨"str", by decide, .base (.str x)⟩
  | lst h a => exact ⟨"list", by decide, SqL.ty h⟩
  | tup h a => exact ⟨"tuple", by decide, SqT.ty h⟩
/-- a thing: a tuple of data, or a value that is no tuple -/
def ThingP (K : PySem.W.Frag) (H : Hp) (v : V) : Option (List PyData) → Prop
  | some ds => ∃ (p : Addr) (xs : List V), v = .ref p ∧ H p = some (.tup xs) ∧ DpAll K H xs ds ∧ ds.length ≤ 3000 ∧ SeqAt.shaped (.tuple ds) = true
  | none => ∃ T, T ∈ ["int", "bool", "str", "NoneType", "list", "dict"] ∧ TyX K H v (.type T)
theorem ThingP.mono {K : PySem.W.Frag} {H H' : Hp} {v : V} {t : Option (List PyData)} (h : ThingP K H v t) (s : Same H H') : ThingP K H' v t := by
  cases t with
  | none => obtain ⟨T, h1, h2⟩ := h; exact ⟨T, h1, TyX.mono h2 s⟩
  | some os => obtain ⟨p, xs, h1, h2, h3, h4⟩ := h; exact ⟨p, xs, h1, s _ _ h2, h3.mono s, h4⟩
def kinds (t : Option (List PyData)) : Option (List (Option Int)) := t.map fun ds => ds.map kindD
theorem ThingP.at {K : PySem.W.Frag} {H : Hp} {v : V} {t : Option (List PyData)} (h : ThingP K H v t) : ThingAt K H v (kinds t) := by
  cases t with
  | none => exact h
  | some ds =>
    obtain ⟨p, xs, h1, h2, h3, h4⟩ := h
    refine ⟨p, xs, h1, h2, by rw [List.length_map]; exact h3.length, fun i x o e1 e2 => ?_⟩
    obtain ⟨d, hd, hv⟩ := h3.get e1
    rw [List.getElem?_map, hd] at e2
    cases Option.some.inj e2
    exact dp_kind hv
end Ts
namespace Ts
open PySem PySem.Spec PyProof.Rows L2
/-! ## a tuple turned about: t[::-1] -/
/-- a block within a block -/
theorem relabel_known {f : Str × NameKind → Str × NameKind} (hf : ∀ p, (f p).1 = p.1 ∧ ((f p).2 = p.2 ∨ (p.2 = .free ∧ (f p).2 = .cell))) {y : Str} : ∀ {names : List (Str × NameKind)}, (names.lookup y = some .cell ∨ names.lookup y = some .free) → ((names.map f).lookup y = some .cell ∨ (names.map f).lookup y = some .free)
  | [], h => by rcases h with h | h <;> cases h
  | p :: r, h => by
    obtain ⟨h1, h2⟩ := hf p
    have ih := @relabel_known f hf y r
    have e1 : (p :: r).lookup y = if y == p.1 then some p.2 else r.lookup y := by
      obtain ⟨n, k⟩ := p
      rw [List.lookup_cons]; cases y == n <;> rfl
    have e2 : ((p :: r).map f).lookup y = if y == p.1 then some (f p).2 else (r.map f).lookup y := by
      rw [List.map_cons]
      generalize f p = q at h1 h2 ⊢
      obtain ⟨n2, k2⟩ := q
      simp only at h1 h2 ⊢
      rw [List.lookup_cons, h1]; cases y == p.1 <;> rfl
    rw [e1] at h
    rw [e2]
    cases hx : y == p.1 with
    | true =>
      rw [hx] at h
      simp only [if_true] at h ⊢
      rcases h2 with h2 | ⟨_, h2⟩
      · rw [h2]; exact h
      · rw [h2]; exact .inl rfl
    | false =>
      rw [hx] at h
      simp only [Bool.false_eq_true, if_false] at h ⊢
      exact ih h
theorem blkOk_in {X : Cx} {s : Shared} {H : Hp} {scope1 scope : Scope} {cl : List (Str × Addr)} {C : Addr} {env : Env} {fp : List Addr} {N : List Str} {own : List (Str × Nat)} (hN : X.N = N) (h : blkC N scope1 scope own = true) :
    BlkOk (X.blk s H scope1 (compEnvC scope1 cl C env) fp).N (X.blk s H scope1 (compEnvC scope1 cl C env) fp).env.scope scope own := by
  subst hN
  have b := blkOk_by h
  exact ⟨b.kind, b.uniq, b.ix, fun y hy e => by
    refine relabel_known (f := fun p => match p with | (n, k) => if (k == NameKind.free && env.scope.kind == .function && env.kindOf n == some .cell) then (n, NameKind.cell) else (n, k)) (fun p => ?_) (b.free y hy e)
    obtain ⟨n, k⟩ := p
    show ((if (k == NameKind.free && env.scope.kind == .function && env.kindOf n == some .cell) = true then (n, NameKind.cell) else (n, k)).1 = n) ∧ ((if (k == NameKind.free && env.scope.kind == .function && env.kindOf n == some .cell) = true then (n, NameKind.cell) else (n, k)).2 = k ∨ (k = .free ∧ (if (k == NameKind.free && env.scope.kind == .function && env.kindOf n == some .cell) = true then (n, NameKind.cell) else (n, k)).2 = .cell))
    by_cases c : (k == NameKind.free && env.scope.kind == .function && env.kindOf n == some .cell) = true
    · rw [if_pos c]
      refine ⟨rfl, .inr ⟨?_, rfl⟩⟩
      simp only [Bool.and_eq_true] at c
      exact eq_of_beq c.1.1
    · rw [if_neg c]
      exact ⟨rfl, .inl rfl⟩, b.own⟩
end Ts
namespace PySem
open Sem (wp)
namespace TsEnum
set_option maxHeartbeats 1000000 in
theorem enum_new1 {v : Value} {o : Obj} {H : Heap → Prop} (B : Begins v o H) :
    Meets (Builtin.«enumerate.__new__» ⟨[.type "enumerate", v], []⟩) (fun _ R s => H s.heap ∧
      R (.ok (.ret (.ref (s.heap.push o).objs.size))) { s with heap := (s.heap.push o).push { cls := .type "enumerate", data := .fields #[.none, .bool false, .ref s.heap.objs.size, rawInt 0, .none, .none] } }) :=
  .of_wp fun prog w A R s h => by
    obtain ⟨hp, g, d, tk, os⟩ := s; obtain ⟨h1, h⟩ := h
    have es := sub_enumerate
    have q1 : ∀ {A2 : Around} {E : Value → Shared → Prop} {Q : Value → Shared → Prop}, Q (.ref hp.objs.size) ⟨hp.push o, g, d, tk, os⟩ → wpAny (model prog w) A2 (pyIter v) Q E ⟨hp, g, d, tk, os⟩ := fun q => B.iter prog w _ _ ⟨hp, g, d, tk, os⟩ _ h1 q
    wp_walk using q1
    refine wpAny_stack_any fun st => wpAny_pure ?_
    split
    · rename_i c _ _ _ _ _
      cases (c == Value.type "enumerate")
      · (wp_walk using q1); exact ⟨_, rfl, h⟩
      · (wp_walk using q1); exact ⟨_, rfl, h⟩
    · (wp_walk using q1); exact ⟨_, rfl, h⟩
section
variable {prog : Program} {w : World} {A : Around} {E : Value → Shared → Prop} {s : Shared}
theorem enum_one {v : Value} {o : Obj} {H : Heap → Prop} {Q : Value → Shared → Prop} (B : Begins v o H) (h1 : H s.heap)
    (h : ∀ h2, IsEnum h2 (s.heap.objs.size + 1) s.heap.objs.size 0 .none → h2.get? s.heap.objs.size = some o → h2.objs.size = s.heap.objs.size + 2 → (∀ b o, s.heap.get? b = some o → h2.get? b = some o) → Q (.ref (s.heap.objs.size + 1)) { s with heap := h2 }) :
    wpAny (model prog w) A (call (.type "enumerate") [v]) Q E s := by
  refine callType_new F.called_enumerate (by decide) (F.typeCall_enumerate_1 _) (F.newCall_enumerate_1 _) (fun obj => F.args_object_init_2 obj _) F.entry_enumerate_new (enum_new1 B) ⟨h1, ?_⟩
  have hz : (s.heap.push o).objs.size = s.heap.objs.size + 1 := Heap.size_push ..
  show _ ∧ _
  rw [hz]
  have he : IsEnum ((s.heap.push o).push { cls := .type "enumerate", data := .fields #[.none, .bool false, .ref s.heap.objs.size, rawInt 0, .none, .none] }) (s.heap.objs.size + 1) s.heap.objs.size 0 .none := by
    have z := Heap.get?_push_size (s.heap.push o) (o := { cls := .type "enumerate", data := .fields #[.none, .bool false, .ref s.heap.objs.size, rawInt 0, .none, .none] }) rfl
    rw [hz] at z; exact z
  exact ⟨⟨_, he, rfl⟩, h _ he (Heap.get?_push_of_some _ (Heap.get?_push_size _ B.free)) (by rw [Heap.size_push, hz]) fun b o x => Heap.get?_push_of_some _ (Heap.get?_push_of_some _ x)⟩
end
end TsEnum
end PySem
namespace Ts
open PySem PySem.Spec PyProof.Rows L2
/-- the tuple at a, each item in a new pair with its number, from c on -/
def IteT (K : PySem.W.Frag) (a : Addr) (c : Int) : It :=
  ⟨fun i H => ∃ (xs : List V) (x : V), SqT K H a xs ∧ xs[i]? = some x, fun i H v H2 => ∃ T x, v = .ref T ∧ H T = none ∧ H2 = upd H T (.tup [.int (c + (i : Nat)), x]) ∧ ∀ xs, SqT K H a xs → xs[i]? = some x, fun i H => ∃ xs : List V, SqT K H a xs ∧ xs.length ≤ i⟩
theorem turn_enumT {P : Program} {w : World} {K : PySem.W.Frag} {elts : List Expr} {kk : Nat} {tpos : Pos} (a e it : Addr) (c : Int) :
    Turn P w K (.Tuple elts kk tpos) (IteT K a c) [e, it] e (fun i h => (∃ old, IsEnum h e it (c + ((i : Nat) : Int)) old) ∧ h.IsTupleIter it a i ∧ e ≠ it) where
  mem := by simp
  obj := fun i h st b hb => by
    obtain ⟨⟨old, he⟩, ⟨o, ho, hc, hd⟩, _⟩ := st
    have z : b = e ∨ b = it := by simpa using hb
    rcases z with z | z
    · rw [z]; exact ⟨_, he, fun v q => nomatch q⟩
    · rw [z]; exact ⟨o, ho, fun v q => by rw [hd] at q; cases q⟩
  keep := fun i h h2 st k => let ⟨⟨old, he⟩, hi, hne⟩ := st; ⟨⟨old, k e (by simp) _ he⟩, hi.at fun o q => k it (by simp) o q, hne⟩
  item := by
    intro X hP hw hK hc i pins s σ H E I hf st hg
    subst hP hw hK
    obtain ⟨⟨old, he⟩, hit, hne⟩ := st
    obtain ⟨xs, x, hq, hx⟩ := hg
    obtain ⟨its, rv, p, hz⟩ := I.tuple hq
    have p2 : s.heap.IsTuple a its.toArray := p
    obtain ⟨u, hu, ru⟩ := rv.get hx
    have hel : e < s.heap.objs.size := Heap.lt_size he
    have hil : it < s.heap.objs.size := by obtain ⟨_, q, _⟩ := hit; exact Heap.lt_size q
    have nae : a ≠ it := fun z => by
      obtain ⟨o1, e1, c1, _⟩ := hit
      obtain ⟨o2, e2, c2, _⟩ := p2
      rw [z, e1] at e2
      cases e2
      rw [c1] at c2
      exact absurd (Value.type.inj c2) (by decide)
    have hae : e ∉ [it, a] := fun z => by
      have z : e = it ∨ e = a := by simpa using z
      rcases z with z | z
      · exact hne z
      · obtain ⟨o2, e2, c2, _⟩ := p2
        rw [← z, he] at e2
        cases e2
        exact absurd (Value.type.inj c2) (by decide)
    have hlt : i < its.toArray.size := by
      have := (List.getElem?_eq_some_iff.mp hu).1
      simpa using this
    refine wpAny_pyNext_enum_itemC (Draws.tuple (prog := X.prog) (w := X.w) (A := X.A.in1) (show X.A.in1.handled = none from I.ok.hd hc) it a nae its.toArray) he ⟨hit, p2⟩ hlt hne hae fun y h2 tk hy ho st2 hT hsz hk => ?_
    have ey : y = u := by
      have hy2 : its.toArray[i]? = some y := hy
      rw [List.getElem?_toArray, hu] at hy2
      exact (Option.some.inj hy2).symm
    subst ey
    refine ⟨_, rfl, wpAny_letOwnedTupleGo_enum (s := { s with heap := h2, toks := tk + 1 }) ho fun h3 he3 sb => ?_⟩
    have hT2 : h3.get? s.heap.objs.size = some { cls := .type "tuple", data := .seq #[.int (c + (i : Int)) tk, y] } := (sb.2 _ (Nat.ne_of_gt hel)).trans hT
    have new : ObjOk X.prog X.w (upd H s.heap.objs.size (.tup [.int (c + (i : Nat)), x])) h3 s.heap.objs.size (.tup [.int (c + (i : Nat)), x]) :=
      ⟨by show 2 ≤ sizeLine; decide, [.int (c + (i : Int)) tk, y], .cons ⟨_, rfl⟩ (.cons ru .nil), ⟨_, hT2, rfl, _, rfl⟩⟩
    have I1 : Inv X pins σ (upd H s.heap.objs.size (.tup [.int (c + (i : Nat)), x])) { s with heap := h3, toks := tk + 1 } :=
      I.turnedNew (ch := [e, it]) (fun b ob hb q => (sb.2 b (fun z => hb (by simp [z]))).trans (hk b ob (fun z => hb (by simp [z])) (fun z => hb (by simp [z])) q)) hf (Nat.le_refl _) new
    refine ⟨.ref s.heap.objs.size, _, I1, rfl, ⟨_, x, rfl, I.hok.fresh (Nat.le_refl _), rfl, fun ys hy => by rw [I.tuple_inj hy hq]; exact hx⟩, ⟨⟨y, ?_⟩, st2.1.at fun o q => (sb.2 it (Ne.symm hne)).trans q, hne⟩, fun b hb => ?_⟩
    · have e1 : c + ((i + 1 : Nat) : Int) = c + (i : Int) + 1 := by omega
      rw [e1]; exact he3
    · have lt : b < s.heap.objs.size := by
        have z : b = e ∨ b = it := by simpa using hb
        rcases z with z | z
        · rw [z]; exact hel
        · rw [z]; exact hil
      rw [upd_ne (Nat.ne_of_lt lt)]
      exact (hf b hb).1
  done := by
    intro X hP hw hK hc i pins s σ H E I hf st hg
    subst hP hw hK
    obtain ⟨⟨old, he⟩, hit, hne⟩ := st
    obtain ⟨xs, hq, hx⟩ := hg
    obtain ⟨its, rv, p, hz⟩ := I.tuple hq
    have p2 : s.heap.IsTuple a its.toArray := p
    obtain ⟨f0, f1, f2, f3, f4, f5⟩ := hf it (by simp)
    have hl := rv.length
    have hT : s.TypeIs (.ref e) "enumerate" := ⟨_, he, rfl⟩
    unfold pyNext
    refine wpAny_bind (wpAny_attempt (wpAny_callSpecial?_slot (name := Str.ofString "__next__") hT F.slot_enumerate_next (wpAny_call_entry F.slot_enumerate_next hT F.entry_enumerate_next ?_ (F.args_enumerate_next_1 _))))
    show wpAny _ _ (field (.ref e) 2 >>= _) _ _ _
    refine wpAny_bind (wpAny_field he rfl (x := .ref it) rfl ?_)
    refine wpAny_bind (wpAny_nextOf_tuple_end (I.ok.hd hc) hit p2 (by simp; omega) fun h2 x eb hx2 => ?_)
    obtain ⟨o, ho, hcl⟩ := hx2
    refine wpAny_bind (wpAny_isInstance (T := "StopIteration") (b := true) ⟨o, ho, hcl⟩ isSubtype_stop ?_)
    exact wpAny_pure ⟨rfl, I.turned (t' := s.toks) (fun b o hb q => eb b o hb q) f0 f1 f3 f4 f5⟩
  self := fun A i s Q E st h => let ⟨⟨_, he⟩, _⟩ := st; wpAny_pyIter_enum he h
def iEnumT (K : PySem.W.Frag) (ta : TA) : TI := fun σ H R => ta σ H fun vs H1 => ∃ a xs, vs = [.ref a] ∧ SqT K H1 a xs ∧ R (IteT K a 0) H1
section
variable {X : Cx}
theorem pi_enumT {e : Expr} {ta : TA} {p pos tpos : Pos} {elts : List Expr} {kk : Nat} (hg : Gl X "enumerate") (hm : X.mg "enumerate" = none) (ha : PA X [e] ta) (hs : starEach [e] X.env = [(false, eval e X.env)] := by rfl) :
    PI X (.Tuple elts kk tpos) (.Call (.Name "enumerate" p) [e] [] pos) (iEnumT X.K ta) := by
  refine ⟨fun pins s σ H R I h => ?_⟩
  refine Call_ (ld_blt I hg hm boot_enumerate (PyProof.Rows.callWith_type1 (thn (ha.run pos pins s σ H _ I h) fun us s1 ⟨vs, H1, I1, r1, q1⟩ => ?_) hs rfl))
  obtain ⟨a, xs, ex, hq, q⟩ := q1
  subst ex
  rw [Vals.ref1 r1]
  obtain ⟨its, rv, p2, hz⟩ := I1.tuple hq
  refine TsEnum.enum_one (begins_tuple a its.toArray) p2 fun h2 he hit hsz hk => wpAny_pyIter_enum he ?_
  have I2 : Inv X pins σ H1 { s1 with heap := h2 } := I1.kept (t' := s1.toks) hk
  refine ⟨s1.heap.objs.size + 1, [s1.heap.objs.size + 1, s1.heap.objs.size], _, _, H1, rfl, I2, turn_enumT a (s1.heap.objs.size + 1) s1.heap.objs.size 0, ⟨⟨.none, by simpa using he⟩, ⟨_, hit, rfl, rfl⟩, Nat.succ_ne_self _⟩, fun b hb => ?_, q⟩
  have z : b = s1.heap.objs.size + 1 ∨ b = s1.heap.objs.size := by simpa using hb
  have le : s1.heap.objs.size ≤ b := by
    rcases z with z | z
    · rw [z]; exact Nat.le_add_right _ _
    · rw [z]; exact Nat.le_refl _
  exact I1.fpOk le (I1.hok.fresh le)
end
end Ts
namespace Ts
open PySem PySem.Spec PyProof.Rows L2
section
variable {prog : Program} {w : World} {A : Around} {E : Value → Shared → Prop} {s : Shared}
theorem getItem_whole {t sl : Addr} {items : Array Value} {vl vu : Value} {lo hi : Option Int} {Q : Value → Shared → Prop} (ht : IsTup s.heap t items) (hs : s.heap.IsSliceOf sl vl vu .none) (pl : IsPart vl lo) (pu : IsPart vu hi)
    (hw : HT.sIx items.size 0 lo = 0 ∧ HT.sIx items.size items.size hi = items.size) (h : Q (.ref t) s) : wpAny (model prog w) A (getItem (.ref t) (.ref sl)) Q E s := by
  obtain ⟨os, hos, hcs, hds⟩ := id hs
  have hTs : s.TypeIs (.ref sl) "slice" := ⟨os, hos, hcs⟩
  unfold getItem
  try with_reducible refine wpAny_holding ?_
  first | refine wpAny_bind (wpAny_pure ?_) | skip
  refine wpAny_bind (wpAny_sequenceKey ht.typeIs (by decide) ?_)
  refine wpAny_bind (wpAny_callSpecial?_slot (name := Str.ofString "__getitem__") ht.typeIs PyProof.Rows.slot_tuple_getitem (wpAny_call_entry PyProof.Rows.slot_tuple_getitem ht.typeIs entry_tuple_getitem ?_ (args_tuple_getitem _ _)))
  show wpAny _ _ (Builtin.Tuple.tupleItemsOf (.ref t) >>= _) _ _ s
  refine wpAny_bind (tupleItemsOf_ ht (wpAny_bind (wpAny_typeOf hTs ?_)))
  rw [if_pos (by decide)]
  refine wpAny_bind (HT.sliceApplied_gen hs pl pu ?_)
  rw [hw.1, hw.2, Nat.sub_zero]
  show wpAny _ _ (if (((0 : Nat) : Int) == 0 && (1 : Int) == 1 && items.size == items.size) = true then _ else _) _ _ s
  rw [if_pos (by simp)]
  refine wpAny_bind ?_
  unfold Builtin.Tuple.tupleIsExact
  refine wpAny_bind (wpAny_typeOf ht.typeIs (wpAny_pure ?_))
  show wpAny _ _ (if (Value.type "tuple" == Value.type "tuple") = true then _ else _) _ _ s
  rw [if_pos (by decide)]
  exact wpAny_bind (wpAny_rule (wpAny_pure ⟨_, rfl, wpAny_pure h⟩))
end
/-- t[lo:hi], also the whole of it -/
def rSlU (K : PySem.W.Frag) : V → Option Int → Option Int → Hp → VK → Prop := fun x lo hi H Q => ∃ a xs, x = .ref a ∧ SqT K H a xs ∧ ∀ p H', Same H H' → (p = a ∨ H p = none) → SqT K H' p (cutV xs lo hi) → (H a = some (.tup xs) → H' p = some (.tup (cutV xs lo hi))) → Q (.ref p) H'
theorem cut_all {xs : List V} {lo hi : Option Int} (h : HT.sIx xs.length 0 lo = 0 ∧ HT.sIx xs.length xs.length hi = xs.length) : cutV xs lo hi = xs := by
  unfold cutV
  rw [h.1, h.2, List.drop_zero, Nat.sub_zero, List.take_length]
theorem sl_tupU {X : Cx} : SlR X (rSlU X.K) := by
  intro pins s σ H x v vl vu lo hi sl Q I rx hs pl pu h
  obtain ⟨a, xs, rfl, hx, q⟩ := h
  by_cases hw : HT.sIx xs.length 0 lo = 0 ∧ HT.sIx xs.length xs.length hi = xs.length
  · cases rx
    obtain ⟨its, r, ht, hz⟩ := I.tuple hx
    have hlen : its.toArray.size = xs.length := by rw [List.size_toArray]; exact r.length.symm
    refine ⟨"tuple", _, PyProof.Rows.slot_tuple_getitem.lookup, ht.typeIs, ?_⟩
    refine getItem_whole ht hs pl pu (by rw [hlen]; exact hw) ⟨.ref a, H, I, rfl, q a H (fun _ _ z => z) (.inl rfl) (by rw [cut_all hw]; exact hx) (fun z => by rw [cut_all hw]; exact z)⟩
  · exact sl_tup pins s σ H _ v vl vu lo hi sl Q I rx hs pl pu ⟨a, xs, rfl, hx, hw, fun p hp => q p _ (same_new hp) (.inr hp) (SqT.of upd_same) (fun _ => upd_same)⟩
end Ts
namespace Ts
open PySem PySem.Spec PyProof.Rows L2
/-! ## logs -/
def IsLog (ls : List Nat) : Prop := ∀ x ∈ ls, x ≤ 1
abbrev logV (ls : List Nat) : List V := ls.map fun x : Nat => V.int ((x : Nat) : Int)
/-- the bounds as they are after t ticks: a pair of tops and bottoms -/
structure Edge where
  a : Nat
  b : Nat
  c : Nat
  d : Nat
/-! ## what is asked -/
abbrev pairI (a b : Int) : PyData := .tuple [.int a, .int b]
def Edge.fits (E : Edge) : Prop := E.a * E.d < E.c * E.b
instance (E : Edge) : Decidable E.fits := by unfold Edge.fits; exact inferInstance
def Edge.has (E : Edge) (e p : Nat) : Prop := E.a * p < e * E.b ∧ e * E.d < E.c * p
instance (E : Edge) (e p : Nat) : Decidable (E.has e p) := by unfold Edge.has; exact inferInstance
/-! ## data of tuples alone -/
inductive TupD : PyData → Prop
  | int (i : Int) : TupD (.int i)
  | non : TupD .none
  | tup {ds : List PyData} (h : ∀ d ∈ ds, TupD d) : TupD (.tuple ds)
theorem DpAll.imp {K : PySem.W.Frag} {H H' : Hp} : ∀ {vs : List V} {ds : List PyData}, DpAll K H vs ds → (∀ d ∈ ds, ∀ v, Dp K H v d → Dp K H' v d) → DpAll K H' vs ds
  | _, _, .nil, _ => .nil
  | _, _, .cons h t, g => .cons (g _ List.mem_cons_self _ h) (DpAll.imp t fun d hd => g d (List.mem_cons_of_mem _ hd))
theorem dp_hideT {K : PySem.W.Frag} {H : Hp} {b : Addr} {l : List V} (hb : H b = some (.lst l)) {d : PyData} (t : TupD d) : ∀ v, Dp K H v d → Dp K (hid b H) v d := by
  induction t with
  | int i => intro v h; cases h.int_eq; exact .int _
  | non => intro v h; cases h; exact .non
  | tup hs ih =>
    intro v h
    obtain ⟨p, xs, rfl, hS, hA⟩ := h.tuple
    exact .tup (seqT_hide hb hS) (DpAll.imp hA ih)
theorem tup_pair (a b : Int) : TupD (pairI a b) := .tup fun d hd => by
  rcases List.mem_cons.mp hd with rfl | z
  · exact .int _
  · rcases List.mem_cons.mp z with rfl | z
    · exact .int _
    · cases z
theorem fine_pair {a b : Nat} (h1 : a ≤ 1000000) (h2 : b ≤ 1000000) : Fine 300 1 (pairI (a : Int) (b : Int)) := by
  have k : (1000000 : Int) < 10 ^ 40 := by decide
  generalize ((10 : Int) ^ 40) = c at k
  exact ((FineAll.cons (fine_int (e := 0) (i := (a : Int)) (by omega) (by omega)) (FineAll.cons (fine_int (e := 0) (i := (b : Int)) (by omega) (by omega)) (FineAll.nil (w := 0)))).tup).mono (by decide) (by decide)
/-- a list of logs -/
def LogsAt (H : Hp) (xs : List V) : Prop := ∀ x ∈ xs, ∃ (a : Addr) (ls : List Nat), x = .ref a ∧ H a = some (.tup (logV ls)) ∧ IsLog ls ∧ 1 ≤ ls.length ∧ ls.length ≤ 200
theorem LogsAt.but {b : Addr} {H H' : Hp} {xs : List V} (h : LogsAt H xs) (B : Bas H b) (s : But b H H') : LogsAt H' xs := fun x hx => by
  obtain ⟨a, ls, rfl, e, r⟩ := h x hx
  refine ⟨a, ls, rfl, s a _ (fun z => ?_) e, r⟩
  obtain ⟨x, y, z', e'⟩ := B
  rw [z, e'] at e; cases e
theorem LogsAt.set {pl : Addr} {H : Hp} {xs us : List V} {u : HO} (h : LogsAt H xs) (B : H pl = some (.lst us)) : LogsAt (upd H pl u) xs := fun x hx => by
  obtain ⟨a, ls, rfl, e, r⟩ := h x hx
  refine ⟨a, ls, rfl, ?_, r⟩
  rw [upd_ne (fun z => by rw [z, B] at e; cases e)]; exact e
theorem LogsAt.snoc {H : Hp} {xs : List V} {a : Addr} {ls : List Nat} (h : LogsAt H xs) (e : H a = some (.tup (logV ls))) (hl : IsLog ls) (l1 : 1 ≤ ls.length) (l2 : ls.length ≤ 200) : LogsAt H (xs ++ [.ref a]) := fun x hx => by
  rcases List.mem_append.mp hx with z | z
  · exact h x z
  · rw [List.mem_singleton.mp z]; exact ⟨a, ls, rfl, e, hl, l1, l2⟩
end Ts
namespace Ts
open PySem PySem.Spec PyProof.Rows L2
/-! ## the simplest share between two bounds -/
def topE (E : Edge) (p : Nat) : Nat := E.a * p / E.b + 1
def okAt (E : Edge) (p : Nat) : Prop := topE E p ≤ p ∧ topE E p * E.d < E.c * p
instance (E : Edge) (p : Nat) : Decidable (okAt E p) := by unfold okAt; exact inferInstance
structure IsFirst (E : Edge) (p : Nat) : Prop where
  pos : 1 ≤ p
  ok : okAt E p
  least : ∀ q, 1 ≤ q → q < p → ¬ okAt E q
theorem top_has {E : Edge} (hb : 0 < E.b) (p : Nat) : E.a * p < topE E p * E.b := by
  unfold topE
  rw [Nat.mul_comm _ E.b]
  exact Nat.lt_mul_div_succ _ hb
theorem top_le_of {E : Edge} (hb : 0 < E.b) {e p : Nat} (h : E.a * p < e * E.b) : topE E p ≤ e := (Nat.div_lt_iff_lt_mul hb).mpr h
theorem ok_of {E : Edge} (hb : 0 < E.b) {e p : Nat} (h : E.has e p) (h3 : e ≤ p) : okAt E p := by
  have t := top_le_of hb h.1
  exact ⟨Nat.le_trans t h3, Nat.lt_of_le_of_lt (Nat.mul_le_mul_right _ t) h.2⟩
theorem IsFirst.uniq {E : Edge} {p q : Nat} (h : IsFirst E p) (g : IsFirst E q) : p = q := by
  rcases Nat.lt_trichotomy p q with z | z | z
  · exact absurd h.ok (g.least p h.pos z)
  · exact z
  · exact absurd g.ok (h.least q g.pos z)
theorem IsFirst.has {E : Edge} {p : Nat} (hb : 0 < E.b) (h : IsFirst E p) : E.has (topE E p) p := ⟨top_has hb p, h.ok.2⟩
theorem IsFirst.gcd {E : Edge} {p : Nat} (hb : 0 < E.b) (h : IsFirst E p) : Nat.gcd (topE E p) p = 1 := by
  have g0 : 0 < Nat.gcd (topE E p) p := Nat.gcd_pos_of_pos_right _ h.pos
  rcases Nat.lt_or_eq_of_le (show 1 ≤ Nat.gcd (topE E p) p from g0) with z | z
  · exfalso
    have hh := h.has hb
    generalize hg : Nat.gcd (topE E p) p = g at g0 z
    have d1 : g ∣ topE E p := hg ▸ Nat.gcd_dvd_left _ _
    have d2 : g ∣ p := hg ▸ Nat.gcd_dvd_right _ _
    obtain ⟨x, hx⟩ := d1
    obtain ⟨y, hy⟩ := d2
    have y1 : 1 ≤ y := by
      rcases Nat.eq_zero_or_pos y with w | w
      · rw [w, Nat.mul_zero] at hy; have := h.pos; omega
      · exact w
    have yp : y < p := by
      rw [hy]
      calc y = 1 * y := (Nat.one_mul y).symm
        _ < g * y := Nat.mul_lt_mul_of_pos_right z y1
    refine h.least y y1 yp (ok_of hb (e := x) ⟨?_, ?_⟩ ?_)
    · have k := hh.1
      have e1 : E.a * p = E.a * y * g := by rw [hy, Nat.mul_comm g y, Nat.mul_assoc]
      have e2 : topE E p * E.b = x * E.b * g := by rw [hx, Nat.mul_comm g x, Nat.mul_right_comm]
      rw [e1, e2] at k
      exact Nat.lt_of_mul_lt_mul_right k
    · have k := hh.2
      have e1 : E.c * p = E.c * y * g := by rw [hy, Nat.mul_comm g y, Nat.mul_assoc]
      have e2 : topE E p * E.d = x * E.d * g := by rw [hx, Nat.mul_comm g x, Nat.mul_right_comm]
      rw [e1, e2] at k
      exact Nat.lt_of_mul_lt_mul_right k
    · have k := h.ok.1
      rw [hx] at k
      have k2 : g * x ≤ g * y := by rw [← hy]; exact k
      exact Nat.le_of_mul_le_mul_left k2 g0
  · exact z.symm
end Ts
namespace Ts
open PySem PySem.Spec PyProof.Rows L2
/-! ## pairs of a number and something else sorted: no two of one number -/
section
variable {prog : Program} {w : World} {A : Around} {E : Value → Shared → Prop} {s : Shared}
def KeyRef (h : Heap) (v : Value) (k : Int) (r : Addr) : Prop := ∃ a xs t, v = Value.ref a ∧ IsTup h a xs ∧ xs.toList = [.int k t, .ref r]
theorem KeyRef.keeps {h h' : Heap} {v : Value} {k : Int} {r : Addr} (g : KeyRef h v k r) (kk : ∀ (b : Addr) (o : Obj), h.get? b = some o → o.cls = .type "tuple" → h'.get? b = some o) : KeyRef h' v k r := by
  obtain ⟨a, xs, t, rfl, ⟨o, ho, hc, n, hd⟩, e⟩ := g
  exact ⟨a, xs, t, rfl, ⟨o, kk a o ho hc, hc, n, hd⟩, e⟩
end
end Ts
namespace Ts
open PySem PySem.Spec PyProof.Rows L2
/-! ## all shares between two bounds, ascending -/
abbrev Frc := Nat × Nat
def ltF (x y : Frc) : Prop := x.1 * y.2 < y.1 * x.2
instance (x y : Frc) : Decidable (ltF x y) := by unfold ltF; exact inferInstance
structure IsShares (E : Edge) (n : Nat) (L : List Frc) : Prop where
  up : L.Pairwise ltF
  mem : ∀ x : Frc, x ∈ L ↔ (1 ≤ x.2 ∧ x.2 ≤ n) ∧ (1 ≤ x.1 ∧ x.1 ≤ x.2) ∧ Nat.gcd x.1 x.2 = 1 ∧ E.has x.1 x.2
theorem up_uniq : ∀ {L M : List Frc}, L.Pairwise ltF → M.Pairwise ltF → (∀ x, x ∈ L ↔ x ∈ M) → L = M
  | [], [], _, _, _ => rfl
  | [], y :: M, _, _, h => absurd ((h y).mpr List.mem_cons_self) (by simp)
  | x :: L, [], _, _, h => absurd ((h x).mp List.mem_cons_self) (by simp)
  | x :: L, y :: M, hL, hM, h => by
    obtain ⟨l1, l2⟩ := List.pairwise_cons.mp hL
    obtain ⟨m1, m2⟩ := List.pairwise_cons.mp hM
    have irr : ∀ z : Frc, ¬ ltF z z := fun z h => Nat.lt_irrefl _ h
    have asy : ∀ z u : Frc, ltF z u → ¬ ltF u z := fun z u h g => Nat.lt_asymm h g
    have e : x = y := by
      rcases List.mem_cons.mp ((h x).mp List.mem_cons_self) with z | z
      · exact z
      · rcases List.mem_cons.mp ((h y).mpr List.mem_cons_self) with u | u
        · exact u.symm
        · exact absurd (l1 y u) (asy _ _ (m1 x z))
    subst e
    rw [up_uniq l2 m2 fun z => ?_]
    constructor
    · intro hz
      rcases List.mem_cons.mp ((h z).mp (List.mem_cons_of_mem _ hz)) with u | u
      · exact absurd (u ▸ l1 z hz) (irr _)
      · exact u
    · intro hz
      rcases List.mem_cons.mp ((h z).mpr (List.mem_cons_of_mem _ hz)) with u | u
      · exact absurd (u ▸ m1 z hz) (irr _)
      · exact u
theorem IsShares.uniq {E : Edge} {n : Nat} {L M : List Frc} (h : IsShares E n L) (g : IsShares E n M) : L = M := up_uniq h.up g.up fun x => (h.mem x).trans (g.mem x).symm
/-- what is found, by any way -/
def isShare (E : Edge) (n : Nat) (x : Frc) : Prop := (1 ≤ x.2 ∧ x.2 ≤ n) ∧ (1 ≤ x.1 ∧ x.1 ≤ x.2) ∧ Nat.gcd x.1 x.2 = 1 ∧ E.has x.1 x.2
structure Found (E : Edge) (n : Nat) (L : List Frc) : Prop where
  nd : L.Nodup
  mem : ∀ x, x ∈ L ↔ isShare E n x
/-- the shares of bottoms up to n, and of the bottom n + 1 with tops below k -/
structure FoundTo (E : Edge) (n k : Nat) (L : List Frc) : Prop where
  nd : L.Nodup
  mem : ∀ x, x ∈ L ↔ (isShare E n x ∨ (x.2 = n + 1 ∧ x.1 < k ∧ isShare E (n + 1) x))
theorem FoundTo.done {E : Edge} {n k : Nat} {L : List Frc} (h : FoundTo E n k L) (hk : ∀ e, k ≤ e → ¬ isShare E (n + 1) (e, n + 1)) : Found E (n + 1) L := ⟨h.nd, fun x => (h.mem x).trans ⟨fun z => by
  rcases z with z | ⟨z1, z2, z3⟩
  · exact ⟨⟨z.1.1, Nat.le_succ_of_le z.1.2⟩, z.2⟩
  · exact z3, fun z => by
  rcases Nat.lt_or_eq_of_le z.1.2 with y | y
  · exact .inl ⟨⟨z.1.1, Nat.le_of_lt_succ y⟩, z.2⟩
  · refine .inr ⟨y, ?_, z⟩
    rcases Nat.lt_or_ge x.1 k with w | w
    · exact w
    · exact absurd z (by obtain ⟨e, p⟩ := x; dsimp only at *; subst y; exact hk e w)⟩⟩
/-! ### candidates: a key, a share -/
/-! ### the two keys -/
/-! ### what is asked -/
end Ts
namespace Ts
open PySem PySem.Spec PyProof.Rows L2 L2H LamX
/-! ## what stays but for tables -/
theorem TyX.ext {K : PySem.W.Frag} {H H' : Hp} {x : V} {t : Value} (h : TyX K H x t) (s : ExtN H H') : TyX K H' x t := by
  cases h with
  | base b => exact .base (match b with
    | .non => .non
    | .bl x => .bl x
    | .int i => .int i
    | .str x => .str x
    | .flt x => .flt x
    | .lst e => .lst (s _ _ e fun _ z => by cases z)
    | .frz e => .frz (s _ _ e fun _ z => by cases z)
    | .tup e => .tup (s _ _ e fun _ z => by cases z)
    | .dK e => .dK (s _ _ e fun _ z => by cases z)
    | .dT e => .dT (s _ _ e fun _ z => by cases z)
    | .ins e a b c d f => .ins (s _ _ e fun _ z => by cases z) a b c d f)
  | byt b => exact .byt b
  | set e => exact .set (s _ _ e fun _ z => by cases z)
  | kList e c => exact .kList e c
  | kTuple e c => exact .kTuple e c
  | kDict e c => exact .kDict e c
  | fTuple e => exact .fTuple (s _ _ e fun _ z => by cases z)
  | fDict e => exact .fDict (s _ _ e fun _ z => by cases z)
theorem KindV.ext {K : PySem.W.Frag} {H H' : Hp} {v : V} {o : Option Int} (h : KindV K H v o) (s : ExtN H H') : KindV K H' v o := by
  cases o with
  | some i => exact h
  | none => obtain ⟨T, h1, h2⟩ := h; exact ⟨T, h1, TyX.ext h2 s⟩
theorem ThingAt.ext {K : PySem.W.Frag} {H H' : Hp} {v : V} {t : Option (List (Option Int))} (h : ThingAt K H v t) (s : ExtN H H') : ThingAt K H' v t := by
  cases t with
  | none => obtain ⟨T, h1, h2⟩ := h; exact ⟨T, h1, TyX.ext h2 s⟩
  | some os => obtain ⟨p, xs, h1, h2, h3, h4⟩ := h; exact ⟨p, xs, h1, s _ _ h2 (fun _ z => by cases z), h3, fun i x o a b => (h4 i x o a b).ext s⟩
theorem sqt_ext {K : PySem.W.Frag} {H H' : Hp} {a : Addr} {xs : List V} (h : SqT K H a xs) (s : ExtN H H') : SqT K H' a xs := by
  rcases h with (h | ⟨o, h⟩) | h
  · exact .inl (.inl (s _ _ h fun _ z => by cases z))
  · exact .inl (.inr ⟨o, s _ _ h fun _ z => by cases z⟩)
  · exact .inr h
theorem sql_ext {K : PySem.W.Frag} {H H' : Hp} {a : Addr} {xs : List V} (h : SqL K H a xs) (s : ExtN H H') : SqL K H' a xs := by
  rcases h with (h | ⟨o, h⟩) | h
  · exact .inl (.inl (s _ _ h fun _ z => by cases z))
  · exact .inl (.inr ⟨o, s _ _ h fun _ z => by cases z⟩)
  · exact .inr h
mutual
theorem dp_ext {K : PySem.W.Frag} {H H' : Hp} (s : ExtN H H') : ∀ (d : PyData) (v : V), Dp K H v d → Dp K H' v d
  | _, _, .non => .non
  | _, _, .bl b => .bl b
  | _, _, .int i => .int i
  | _, _, .str x => .str x
  | .list ds, _, .lst h a => .lst (sql_ext h s) (dpAll_ext s ds _ a)
  | .tuple ds, _, .tup h a => .tup (sqt_ext h s) (dpAll_ext s ds _ a)
theorem dpAll_ext {K : PySem.W.Frag} {H H' : Hp} (s : ExtN H H') : ∀ (ds : List PyData) (vs : List V), DpAll K H vs ds → DpAll K H' vs ds
  | [], _, .nil => .nil
  | d :: ds, _, .cons h t => .cons (dp_ext s d _ h) (dpAll_ext s ds _ t)
end
theorem ShownV.ext {K : PySem.W.Frag} {H H' : Hp} {v : V} {t : Str} (h : ShownV K H v t) (s : ExtN H H') : ShownV K H' v t := by
  obtain ⟨d, h1, h2⟩ := h
  exact ⟨d, dp_ext s _ _ h1, h2⟩
/-! ## tuples joined, no frozen ones -/
/-! ## the functions of logs, given anything -/
/-! ## what is told -/
/-- the facts about a class of errors that is told -/
structure ErrI (K : PySem.W.Frag) (c : Cls11) (b : Bas3) (C : Addr) (i : Nat) (t : Str) : Prop where
  ex : ExcK K C
  is : IsErr K c b C i
  ne : i ≠ 10
  wd : errWords[i]? = some t
  no : PySem.W.findIn K (.ref C) (fieldOf i) = some none
  an : PySem.W.exmAny K (.ref C) [.ref b.v, .ref b.w, .ref b.x] = some true
/-- the text that is due for the value of an error -/
def shV : V → Str
  | .int i => (PyData.int i).shown
  | _ => PyData.none.shown
/-- what is heard: as it is due -/
def Fits (due : Option (Str × Str)) (w : Str × Str) : Prop := match due with
  | none => w.1 = "back"
  | some d => w = d
end Ts
namespace Ts
open PySem PySem.Spec PyProof.Rows L2 L2H LamX
/-- a list of two texts -/
def PairAt (H : Hp) (v : V) (w : Str × Str) : Prop := ∃ p, v = .ref p ∧ H p = some (.lst [.str w.1, .str w.2])
inductive Pairs (H : Hp) : List V → List (Str × Str) → Prop
  | nil : Pairs H [] []
  | cons {x : V} {w : Str × Str} {xs : List V} {ws : List (Str × Str)} : PairAt H x w → Pairs H xs ws → Pairs H (x :: xs) (w :: ws)
def dueV : Option (Str × Str) → List V
  | none => []
  | some d => [.str d.1, .str d.2]
/-- what was told is compared with what is due; the due text is sound -/
def spSame (K : PySem.W.Frag) : Sp := fun vs H Q _ => ∃ (l dl : Addr) (xs : List V) (ws : List (Str × Str)) (due : Option (Str × Str)), vs = [.ref l, .ref dl] ∧ H l = some (.lst xs) ∧ Pairs H xs ws ∧ xs.length ≤ 8 ∧
  H dl = some (.lst (dueV due)) ∧ (∀ w ∈ ws, Fits due w) ∧ (∀ d, due = some d → PyData.strOk d.1 = true ∧ PyData.strOk d.2 = true) ∧ ∀ H', Same H H' → Q (.bl true) H'
end Ts
namespace Ts
open PySem PySem.Spec PyProof.Rows L2 L2H LamX
abbrev pairW (w : Str × Str) : PyData := .list [.str w.1, .str w.2]
theorem PairAt.mono {H H' : Hp} {v : V} {w : Str × Str} (h : PairAt H v w) (s : Same H H') : PairAt H' v w := by
  obtain ⟨p, h1, h2⟩ := h
  exact ⟨p, h1, s _ _ h2⟩
theorem Pairs.mono {H H' : Hp} (s : Same H H') : ∀ {xs : List V} {ws : List (Str × Str)}, Pairs H xs ws → Pairs H' xs ws
  | _, _, .nil => .nil
  | _, _, .cons h t => .cons (h.mono s) (t.mono s)
theorem Pairs.dp {K : PySem.W.Frag} {H : Hp} : ∀ {xs : List V} {ws : List (Str × Str)}, Pairs H xs ws → DpAll K H xs (ws.map pairW)
  | _, _, .nil => .nil
  | _, _, .cons ⟨_, h1, h2⟩ t => .cons (by rw [h1]; exact .lst (SqL.of h2) (.cons (.str _) (.cons (.str _) .nil))) t.dp
theorem Pairs.length {H : Hp} : ∀ {xs : List V} {ws : List (Str × Str)}, Pairs H xs ws → xs.length = ws.length
  | _, _, .nil => rfl
  | _, _, .cons _ t => by rw [List.length_cons, List.length_cons, t.length]
theorem Pairs.get {H : Hp} : ∀ {xs : List V} {ws : List (Str × Str)} {i : Nat} {x : V}, Pairs H xs ws → xs[i]? = some x → ∃ w, w ∈ ws ∧ PairAt H x w
  | _, _, 0, _, .cons h _, e => by cases e; exact ⟨_, List.mem_cons_self, h⟩
  | _, _, i + 1, _, .cons _ t, e => by
    obtain ⟨w, h1, h2⟩ := t.get (i := i) e
    exact ⟨w, List.mem_cons_of_mem _ h1, h2⟩
theorem lay_rep {d : PyData} (h : d.canLay0 = true) : ∀ n, PyData.canLayAll0 (List.replicate n d) = true
  | 0 => rfl
  | n + 1 => by show (d.canLay0 && PyData.canLayAll0 (List.replicate n d)) = true; rw [h, lay_rep h n]; rfl
theorem depth_rep {d : PyData} : ∀ n, PyData.depthAll (List.replicate n d) ≤ d.depth
  | 0 => Nat.zero_le _
  | n + 1 => by show max d.depth (PyData.depthAll (List.replicate n d)) ≤ _; have := depth_rep (d := d) n; omega
theorem shaped_rep {d : PyData} {n : Nat} (h : d.canLay0 = true) (hd : d.depth ≤ 60) : SeqAt.shaped (.list (List.replicate n d)) = true := by
  unfold SeqAt.shaped
  rw [show PyData.canLay0 (.list (List.replicate n d)) = true from lay_rep h n]
  have k : PyData.depth (.list (List.replicate n d)) ≤ 64 := by
    show PyData.depthAll (List.replicate n d) + 1 ≤ 64
    have := depth_rep (d := d) n
    omega
  rw [decide_eq_true k]; rfl
theorem eqv_rep {d : PyData} {n : Nat} (h : d.canLay0 = true) : (PyData.list (List.replicate n d)).eqv (.list (List.replicate n d)) = true := SeqAt.eqv_refl _ (lay_rep h n)
theorem dp_rep {K : PySem.W.Frag} {H : Hp} {v : V} {d : PyData} (h : Dp K H v d) : ∀ n, DpAll K H (List.replicate n v) (List.replicate n d)
  | 0 => .nil
  | n + 1 => .cons h (dp_rep h n)
theorem all_rep {α : Type} {x : α} : ∀ {l : List α}, (∀ y ∈ l, y = x) → l = List.replicate l.length x
  | [], _ => rfl
  | y :: l, h => by
    have e := all_rep (l := l) fun z hz => h z (List.mem_cons_of_mem _ hz)
    rw [h y List.mem_cons_self, List.length_cons, List.replicate_succ, ← e]
theorem lay_pair {w : Str × Str} (h : PyData.strOk w.1 = true ∧ PyData.strOk w.2 = true) : (pairW w).canLay0 = true := by
  show (PyData.strOk w.1 && (PyData.strOk w.2 && true)) = true
  rw [h.1, h.2]; rfl
end Ts
namespace Ts
open PySem PySem.Spec PyProof.Rows L2 L2H LamX
theorem lay_all : ∀ {ds : List PyData}, (∀ d ∈ ds, d.canLay0 = true ∧ d.depth ≤ 60) → PyData.canLayAll0 ds = true ∧ PyData.depthAll ds ≤ 60
  | [], _ => ⟨rfl, Nat.zero_le _⟩
  | d :: ds, h => by
    obtain ⟨h1, h2⟩ := h d List.mem_cons_self
    obtain ⟨g1, g2⟩ := lay_all (ds := ds) fun x hx => h x (List.mem_cons_of_mem _ hx)
    exact ⟨by show (d.canLay0 && PyData.canLayAll0 ds) = true; rw [h1, g1]; rfl, by show max d.depth (PyData.depthAll ds) ≤ 60; omega⟩
theorem shaped_tup {ds : List PyData} (h : ∀ d ∈ ds, d.canLay0 = true ∧ d.depth ≤ 60) : SeqAt.shaped (.tuple ds) = true := by
  obtain ⟨h1, h2⟩ := lay_all h
  unfold SeqAt.shaped
  rw [show PyData.canLay0 (.tuple ds) = true from h1, decide_eq_true (show PyData.depth (.tuple ds) ≤ 64 by show PyData.depthAll ds + 1 ≤ 64; omega)]; rfl
theorem ThingP.of {K : PySem.W.Frag} {H : Hp} {p : Addr} {xs : List V} {ds : List PyData} (h : H p = some (.tup xs)) (hd : DpAll K H xs ds) (hl : ds.length ≤ 3000) (ok : ∀ d ∈ ds, d.canLay0 = true ∧ d.depth ≤ 60) : ThingP K H (.ref p) (some ds) := ⟨p, xs, rfl, h, hd, hl, shaped_tup ok⟩
end Ts
namespace Ts
open PySem PySem.Spec PyProof.Rows L2 L2H LamX
/-- of a heap only what is said of it counts from now on -/
theorem at_heap {G : Hp → Prop} {Hn : Hp} (C : Hp → Prop) (c : C Hn) (h : ∀ Hx, C Hx → G Hx) : G Hn := h Hn c
theorem at_heap2 {γ : Type} {q : γ} {G : Hp → γ → Prop} {Hn : Hp} (C : Hp → Prop) (c : C Hn) (h : ∀ Hx, C Hx → G Hx q) : G Hn q := h Hn c
end Ts
namespace Ts
open PySem PySem.Spec PyProof.Rows L2
/-! ## list(zip(xs, ys)) of two lists -/
/-- the pairs that were made so far -/
def LzG (us vs : Array Value) (S : Addr) (h : Heap) (ts : List Addr) : Prop := ts.Nodup ∧ ∀ (j : Nat) (t : Addr), ts[j]? = some t → S < t ∧ ∃ x y, us[j]? = some x ∧ vs[j]? = some y ∧ IsPair h t x y
structure LzSt (us vs : Array Value) (S z TI TO i1 i2 a b : Addr) (i : Nat) (h : Heap) : Prop where
  pair : IsPair h TI (.ref i1) (.ref i2)
  it1 : h.IsListIter i1 a i
  it2 : h.IsListIter i2 b i
  l1 : h.IsList a us
  l2 : h.IsList b vs
  held : (IsZip h z TI TO .none ∧ ∃ c d, IsPair h TO c d) ∨ ∃ T f oT, IsZipHeld h z TI TO T f ∧ h.get? T = some oT ∧ S < T
section
variable {prog : Program} {w : World} {A : Around} {s : Shared} {R : Result → Shared → Prop} {us vs : Array Value} {S z TI TO i1 i2 a b : Addr}
theorem lz_loop (hh : A.handled = none) (D : ZipApart z TI TO i1 i2 a b) (bz : z < S) (bTI : TI < S) (bTO : TO < S) (b1 : i1 < S) (b2 : i2 < S) (ba : a < S) (bb : b < S) (hn : min us.size vs.size ≤ sizeLine) (res : Value) {h₁ : Heap}
    (hR : ∀ (h' : Heap) (tk : Nat) (acc : Array Value) (c : Nat) (ts : List Addr), (∀ (x : Addr) (o : Obj), x ≠ z → x ≠ TO → x ≠ i1 → x ≠ i2 → x ≠ S → h₁.get? x = some o → h'.get? x = some o) → h'.get? S = some { cls := .type "list", data := .seq acc c } →
      acc.toList = ts.map Value.ref → ts.length = min us.size vs.size → LzG us vs S h' ts → R (.ok (.ret res)) { heap := h', gens := s.gens, drawn := s.drawn, toks := tk, os := s.os }) :
    ∀ (k i : Nat) (h : Heap) (tk c : Nat) (acc : Array Value) (ts : List Addr), min us.size vs.size - i = k → i ≤ min us.size vs.size → LzSt us vs S z TI TO i1 i2 a b i h →
      (∀ (x : Addr) (o : Obj), x ≠ z → x ≠ TO → x ≠ i1 → x ≠ i2 → x ≠ S → h₁.get? x = some o → h.get? x = some o) → h.get? S = some { cls := .type "list", data := .seq acc c } → acc.toList = ts.map Value.ref → ts.length = i → LzG us vs S h ts →
      codeAny (model prog w) A (.builtin "list.extend.loop" ⟨[.ref S, .ref z, res], []⟩) R { heap := h, gens := s.gens, drawn := s.drawn, toks := tk, os := s.os } := by
  have hA : A.in1.handled = none := hh
  have nz : S ≠ z := Nat.ne_of_gt bz
  have nTO : S ≠ TO := Nat.ne_of_gt bTO
  have n1 : S ≠ i1 := Nat.ne_of_gt b1
  have n2 : S ≠ i2 := Nat.ne_of_gt b2
  intro k
  induction k with
  | zero =>
    intro i h tk c acc ts hk hi st kp hS hacc hal hG
    have hin : i = min us.size vs.size := by omega
    refine codeAny_builtin F.entry_extend_loop ?_
    rw [Around.under_plainId F.plain_extend_loop _]
    have out : us[i]? = none ∨ vs[i]? = none := by
      rw [hin]
      rcases Nat.le_total us.size vs.size with e | e
      · exact .inl (Array.getElem?_eq_none (Nat.le_of_eq (Nat.min_eq_left e).symm))
      · exact .inr (Array.getElem?_eq_none (Nat.le_of_eq (Nat.min_eq_right e).symm))
    have go : ∀ h' : Heap, (∀ (c : Addr) (o : Obj), c ≠ z → c ≠ TO → c ≠ i1 → c ≠ i2 → h.get? c = some o → h'.get? c = some o) → R (.ok (.ret res)) { heap := h', gens := s.gens, drawn := s.drawn, toks := tk, os := s.os } := fun h' e => by
      refine hR h' tk acc c ts (fun x o x1 x2 x3 x4 x5 z => e x o x1 x2 x3 x4 (kp x o x1 x2 x3 x4 x5 z)) (e S _ nz nTO n1 n2 hS) hacc (hal.trans hin) ⟨hG.1, fun j t hj => ?_⟩
      obtain ⟨lt, x, y, e1, e2, e3⟩ := hG.2 j t hj
      exact ⟨lt, x, y, e1, e2, e t _ (Nat.ne_of_gt (Nat.lt_trans bz lt)) (Nat.ne_of_gt (Nat.lt_trans bTO lt)) (Nat.ne_of_gt (Nat.lt_trans b1 lt)) (Nat.ne_of_gt (Nat.lt_trans b2 lt)) e3⟩
    refine wpAny_bind ?_
    rcases st.held with ⟨g, c2, d2, g3⟩ | ⟨T, f, oT, g, gT, r⟩
    · exact wpAny_pyNext_zip_end hA D g st.pair g3 st.it1 st.it2 st.l1 st.l2 out fun h' e => wpAny_pure (go h' e)
    · exact wpAny_pyNext_zip_end_held hA D g gT st.pair st.it1 st.it2 st.l1 st.l2 out fun h' e => wpAny_pure (go h' fun c o c1 _ c3 c4 => e c o c1 c3 c4)
  | succ k ih =>
    intro i h tk c acc ts hk hi st kp hS hacc hal hG
    have hlt : i < min us.size vs.size := by omega
    have ku : i < us.size := Nat.lt_of_lt_of_le hlt (Nat.min_le_left ..)
    have kv : i < vs.size := Nat.lt_of_lt_of_le hlt (Nat.min_le_right ..)
    have eu := Array.getElem?_eq_getElem ku
    have ev := Array.getElem?_eq_getElem kv
    have hSl := Heap.lt_size hS
    have hsz : acc.size = i := by rw [← Array.length_toList, hacc, List.length_map, hal]
    refine codeAny_builtin F.entry_extend_loop ?_
    rw [Around.under_plainId F.plain_extend_loop _]
    refine wpAny_bind ?_
    -- behind the turn
    have go : ∀ (h' : Heap) (T2 : Addr) (f2 : Bool) (oT2 : Obj), IsZipHeld h' z TI TO T2 f2 → h'.get? T2 = some oT2 → S < T2 → h'.IsListIter i1 a (i + 1) → h'.IsListIter i2 b (i + 1) → IsPair h' h.objs.size us[i] vs[i] →
        (∀ (c : Addr) (o : Obj), c ≠ z → c ≠ TO → c ≠ i1 → c ≠ i2 → h.get? c = some o → h'.get? c = some o) →
        wpAny (model prog w) A.in1 (Builtin.List.listUpdate (.ref S) (fun x => x.push (Value.ref h.objs.size)) >>= fun _ => again (.builtin "list.extend.loop" ⟨[.ref S, .ref z, res], []⟩))
          (fun fin s' => match fin with | .done f => R (.ok f) s' | .again c' => c'.quiet = true ∧ codeAny (model prog w) A c' R s') (fun e s' => R (.error e) s') { heap := h', gens := s.gens, drawn := s.drawn, toks := tk, os := s.os } := fun h' T2 f2 oT2 a1 a2 a3 a4 a5 a6 e => by
      have hS' := e S _ nz nTO n1 n2 hS
      have up : ∀ (x : Addr) (o : Obj), x ≠ S → h'.get? x = some o → (h'.update S (Obj.mapSeq fun x => x.push (Value.ref h.objs.size))).get? x = some o := fun x o hx z => (Heap.get?_update_other h' _ (Ne.symm hx)).trans z
      refine wpAny_bind (wpAny_updateSeq hS' rfl (wpAny_pure ⟨plainId_quiet F.plain_extend_loop _, ?_⟩) (by show acc.size ≤ sizeLine; omega) (by show (acc.push _).size ≤ sizeLine + 1; rw [Array.size_push]; omega))
      refine ih (i + 1) _ tk _ (acc.push (.ref h.objs.size)) (ts ++ [h.objs.size]) (by omega) hlt ⟨?_, ?_, ?_, ?_, ?_, ?_⟩ (fun x o x1 x2 x3 x4 x5 y => up x o x5 (e x o x1 x2 x3 x4 (kp x o x1 x2 x3 x4 x5 y))) (Heap.get?_update_self _ hS' rfl) ?_ ?_ ?_
      · exact up _ _ (Nat.ne_of_lt bTI) (e _ _ D.TIz D.TITO D.TIi1 D.TIi2 st.pair)
      · exact a4.at fun o y => up _ o (Nat.ne_of_lt b1) y
      · exact a5.at fun o y => up _ o (Nat.ne_of_lt b2) y
      · exact st.l1.at fun o y => up _ o (Nat.ne_of_lt ba) (e _ o D.l1z D.l1TO D.l1i1 D.l1i2 y)
      · exact st.l2.at fun o y => up _ o (Nat.ne_of_lt bb) (e _ o D.l2z D.l2TO D.l2i1 D.l2i2 y)
      · exact .inr ⟨T2, f2, oT2, up _ _ (Nat.ne_of_lt bz) a1, up _ _ (Nat.ne_of_gt a3) a2, a3⟩
      · rw [Array.toList_push, hacc, List.map_append]; rfl
      · rw [List.length_append, hal]; rfl
      · refine ⟨List.nodup_append.mpr ⟨hG.1, by simp, fun t ht u hu e => ?_⟩, ?_⟩
        · obtain ⟨j, hj⟩ := List.mem_iff_getElem?.mp ht
          obtain ⟨_, x, y, _, _, e3⟩ := hG.2 j t hj
          have : u = h.objs.size := by simpa using hu
          rw [e, this] at e3
          exact absurd (Heap.lt_size e3) (Nat.lt_irrefl _)
        intro j t hj
        by_cases jl : j < ts.length
        · rw [List.getElem?_append_left jl] at hj
          obtain ⟨lt, x, y, e1, e2, e3⟩ := hG.2 j t hj
          exact ⟨lt, x, y, e1, e2, up _ _ (Nat.ne_of_gt lt) (e t _ (Nat.ne_of_gt (Nat.lt_trans bz lt)) (Nat.ne_of_gt (Nat.lt_trans bTO lt)) (Nat.ne_of_gt (Nat.lt_trans b1 lt)) (Nat.ne_of_gt (Nat.lt_trans b2 lt)) e3)⟩
        · rw [List.getElem?_append_right (by omega)] at hj
          have j0 : j - ts.length = 0 := by
            cases e0 : j - ts.length with
            | zero => rfl
            | succ m => rw [e0] at hj; cases hj
          have ji : j = i := by omega
          rw [j0] at hj
          cases hj
          subst ji
          exact ⟨hSl, _, _, eu, ev, up _ _ (Nat.ne_of_gt hSl) a6⟩
    rcases st.held with ⟨g, c2, d2, g3⟩ | ⟨T, f, oT, g, gT, r⟩
    · refine wpAny_pyNext_zip_item D g st.pair g3 st.it1 st.it2 st.l1 st.l2 eu ev fun h' a1 a2 a3 a4 a5 a6 e => ?_
      exact go h' h.objs.size false _ a1 a5 hSl a3 a4 a5 e
    · refine wpAny_pyNext_zip_item_held D g gT st.pair st.it1 st.it2 st.l1 st.l2 eu ev fun h' a1 a2 a3 a4 a5 e => ?_
      exact go h' T true oT a1 (e T _ (Nat.ne_of_gt (Nat.lt_trans bz r)) (Nat.ne_of_gt (Nat.lt_trans b1 r)) (Nat.ne_of_gt (Nat.lt_trans b2 r)) gT) r a2 a3 a4 fun c o c1 _ c3 c4 => e c o c1 c3 c4
theorem lz_hint {E : Value → Shared → Prop} {Q : Bool → Shared → Prop} (hT : s.TypeIs (.ref z) "zip") (h : Q true s) : wpAny (model prog w) A (Builtin.List.listLengthHint (.ref z)) Q E s := by
  unfold Builtin.List.listLengthHint
  refine wpAny_bind (wpAny_specialOf (r := none) hT (by rw [typeLookup_type, builtinLookup_eq_fast]; rfl) ?_)
  dsimp only
  refine wpAny_bind (wpAny_specialOf (r := none) hT (by rw [typeLookup_type, builtinLookup_eq_fast]; rfl) ?_)
  exact wpAny_pure h
theorem lz_extend (hh : A.handled = none) (D : ZipApart z TI TO i1 i2 a b) (bz : z < S) (bTI : TI < S) (bTO : TO < S) (b1 : i1 < S) (b2 : i2 < S) (ba : a < S) (bb : b < S) (hn : min us.size vs.size ≤ sizeLine) (res : Value) (c₀ : Nat)
    (st : LzSt us vs S z TI TO i1 i2 a b 0 s.heap) (hZ : ∃ f0, IsZip s.heap z TI TO f0) (hS : s.heap.get? S = some { cls := .type "list", data := .seq #[] c₀ })
    (hR : ∀ (h' : Heap) (tk : Nat) (acc : Array Value) (c : Nat) (ts : List Addr), (∀ (x : Addr) (o : Obj), x ≠ z → x ≠ TO → x ≠ i1 → x ≠ i2 → x ≠ S → s.heap.get? x = some o → h'.get? x = some o) → h'.get? S = some { cls := .type "list", data := .seq acc c } →
      acc.toList = ts.map Value.ref → ts.length = min us.size vs.size → LzG us vs S h' ts → R (.ok (.ret res)) { heap := h', gens := s.gens, drawn := s.drawn, toks := tk, os := s.os }) :
    wpAny (model prog w) A.in1 (Builtin.List.listExtendWith (.ref S) (.ref z) res) (fun fin s' => match fin with | .done f => R (.ok f) s' | .again c' => c'.quiet = true ∧ codeAny (model prog w) A c' R s') (fun e s' => R (.error e) s') s := by
  obtain ⟨f0, hz⟩ := hZ
  have hT : s.TypeIs (.ref z) "zip" := ⟨_, hz, rfl⟩
  have nz : S ≠ z := Nat.ne_of_gt bz
  unfold Builtin.List.listExtendWith
  refine wpAny_bind (wpAny_typeOf hT ?_)
  have c1 : (Builtin.List.listSameRef (.ref S) (.ref z) || Value.type "zip" == Value.type "list" || Value.type "zip" == Value.type "tuple") = false := by
    have : Builtin.List.listSameRef (.ref S) (.ref z) = false := by
      show (S == z) = false
      exact beq_eq_false_iff_ne.mpr nz
    rw [this]; decide
  rw [c1]
  rw [if_neg (by decide)]
  refine wpAny_bind (wpAny_pyIter_zip hz ?_)
  refine wpAny_bind (wpAny_holding (lz_hint hT ?_))
  dsimp only
  rw [if_pos (by rfl)]
  refine wpAny_bind (wpAny_rule ?_)
  have up1 : ∀ (x : Addr) (o : Obj), x ≠ S → s.heap.get? x = some o → (s.heap.update S (Obj.mapSeq fun x => x.push Value.none)).get? x = some o := fun x o hx z => (Heap.get?_update_other s.heap _ (Ne.symm hx)).trans z
  have at1 := Heap.get?_update_self (Obj.mapSeq fun x => x.push Value.none) hS rfl
  have up2 : ∀ (x : Addr) (o : Obj), x ≠ S → s.heap.get? x = some o → ((s.heap.update S (Obj.mapSeq fun x => x.push Value.none)).update S (Obj.mapSeq fun x => x.pop)).get? x = some o := fun x o hx z => (Heap.get?_update_other _ _ (Ne.symm hx)).trans (up1 x o hx z)
  have at2 := Heap.get?_update_self (Obj.mapSeq fun x => x.pop) at1 rfl
  refine wpAny_bind ?_
  unfold Builtin.List.listTouch
  refine wpAny_bind (wpAny_updateSeq hS rfl ?_ (by show 0 ≤ sizeLine; decide) (by show 1 ≤ sizeLine + 1; decide))
  refine wpAny_updateSeq at1 rfl ?_ (by show 1 ≤ sizeLine; decide) (by show 0 ≤ sizeLine + 1; decide)
  refine wpAny_pure ⟨plainId_quiet F.plain_extend_loop _, ?_⟩
  refine lz_loop hh D bz bTI bTO b1 b2 ba bb hn res (h₁ := s.heap) hR _ 0 _ s.toks _ #[] [] rfl (Nat.zero_le _) ⟨?_, ?_, ?_, ?_, ?_, ?_⟩ (fun x o _ _ _ _ x5 y => up2 x o x5 y) at2 rfl rfl ⟨List.nodup_nil, fun j t hj => by cases hj⟩
  · exact up2 _ _ (Nat.ne_of_lt bTI) st.pair
  · exact st.it1.at fun o y => up2 _ o (Nat.ne_of_lt b1) y
  · exact st.it2.at fun o y => up2 _ o (Nat.ne_of_lt b2) y
  · exact st.l1.at fun o y => up2 _ o (Nat.ne_of_lt ba) y
  · exact st.l2.at fun o y => up2 _ o (Nat.ne_of_lt bb) y
  · rcases st.held with ⟨g, c2, d2, g3⟩ | ⟨T, f, oT, g, gT, r⟩
    · exact .inl ⟨up2 _ _ (Nat.ne_of_lt bz) g, c2, d2, up2 _ _ (Nat.ne_of_lt bTO) g3⟩
    · exact .inr ⟨T, f, oT, up2 _ _ (Nat.ne_of_lt bz) g, up2 _ _ (Nat.ne_of_gt r) gT, r⟩
theorem lz_init (hh : A.handled = none) (D : ZipApart z TI TO i1 i2 a b) (bz : z < S) (bTI : TI < S) (bTO : TO < S) (b1 : i1 < S) (b2 : i2 < S) (ba : a < S) (bb : b < S) (hn : min us.size vs.size ≤ sizeLine)
    (st : LzSt us vs S z TI TO i1 i2 a b 0 s.heap) (hZ : ∃ f0, IsZip s.heap z TI TO f0) (hS : s.heap.get? S = some { cls := .type "list", data := .seq #[] })
    (hR : ∀ (h' : Heap) (tk : Nat) (acc : Array Value) (c : Nat) (ts : List Addr), (∀ (x : Addr) (o : Obj), x ≠ z → x ≠ TO → x ≠ i1 → x ≠ i2 → x ≠ S → s.heap.get? x = some o → h'.get? x = some o) → h'.get? S = some { cls := .type "list", data := .seq acc c } →
      acc.toList = ts.map Value.ref → ts.length = min us.size vs.size → LzG us vs S h' ts → R (.ok (.ret .none)) { heap := h', gens := s.gens, drawn := s.drawn, toks := tk, os := s.os }) :
    wpAny (model prog w) A.in1 (Builtin.«list.__init__» ⟨[.ref S, .ref z], []⟩) (fun fin s' => match fin with | .done f => R (.ok f) s' | .again c' => c'.quiet = true ∧ codeAny (model prog w) A c' R s') (fun e s' => R (.error e) s') s := by
  unfold Builtin.«list.__init__»
  have up1 : ∀ (x : Addr) (o : Obj), x ≠ S → s.heap.get? x = some o → (s.heap.update S (Obj.mapSeq fun _ => #[])).get? x = some o := fun x o hx z => (Heap.get?_update_other s.heap _ (Ne.symm hx)).trans z
  have at1 := Heap.get?_update_self (Obj.mapSeq fun _ => #[]) hS rfl
  show wpAny _ _ (Builtin.List.listItems (.ref S) >>= fun old => Builtin.List.listUpdate (.ref S) (fun _ => #[]) >>= fun _ => letGo old.toList.reverse >>= fun _ => Builtin.List.listExtendWith (.ref S) (.ref z) .none) _ _ _
  refine wpAny_bind (show wpAny _ _ (Builtin.List.listItems (.ref S)) _ _ _ from ?_)
  unfold Builtin.List.listItems
  refine wpAny_bind (wpAny_seqItems hS rfl (wpAny_pure ?_))
  refine wpAny_bind (wpAny_updateSeq hS rfl ?_ (by show 0 ≤ sizeLine; decide) (by show 0 ≤ sizeLine + 1; decide))
  refine wpAny_bind (wpAny_letGo ?_)
  obtain ⟨f0, hz⟩ := hZ
  refine lz_extend hh D bz bTI bTO b1 b2 ba bb hn .none _ ⟨?_, ?_, ?_, ?_, ?_, ?_⟩ ⟨f0, up1 _ _ (Nat.ne_of_lt bz) hz⟩ at1 (fun h' tk acc c ts k1 k2 k3 k4 k5 => hR h' tk acc c ts (fun x o x1 x2 x3 x4 x5 y => k1 x o x1 x2 x3 x4 x5 (up1 x o x5 y)) k2 k3 k4 k5)
  · exact up1 _ _ (Nat.ne_of_lt bTI) st.pair
  · exact st.it1.at fun o y => up1 _ o (Nat.ne_of_lt b1) y
  · exact st.it2.at fun o y => up1 _ o (Nat.ne_of_lt b2) y
  · exact st.l1.at fun o y => up1 _ o (Nat.ne_of_lt ba) y
  · exact st.l2.at fun o y => up1 _ o (Nat.ne_of_lt bb) y
  · rcases st.held with ⟨g, c2, d2, g3⟩ | ⟨T, f, oT, g, gT, r⟩
    · exact .inl ⟨up1 _ _ (Nat.ne_of_lt bz) g, c2, d2, up1 _ _ (Nat.ne_of_lt bTO) g3⟩
    · exact .inr ⟨T, f, oT, up1 _ _ (Nat.ne_of_lt bz) g, up1 _ _ (Nat.ne_of_gt r) gT, r⟩
end
/-! ## several new objects at once -/
def layN (H : Hp) : List (Addr × HO) → Hp
  | [] => H
  | p :: r => layN (upd H p.1 p.2) r
theorem layN_off : ∀ (ns : List (Addr × HO)) (H : Hp) (a : Addr), a ∉ ns.map (·.1) → layN H ns a = H a
  | [], _, _, _ => rfl
  | p :: r, H, a, h => by
    have h1 : a ≠ p.1 := fun e => h (by rw [e]; exact List.mem_cons_self)
    have h2 : a ∉ r.map (·.1) := fun e => h (List.mem_cons_of_mem _ e)
    show layN (upd H p.1 p.2) r a = _
    rw [layN_off r _ a h2, upd_ne h1]
theorem layN_at : ∀ (ns : List (Addr × HO)) (H : Hp), (ns.map (·.1)).Nodup → ∀ p ∈ ns, layN H ns p.1 = some p.2
  | [], _, _, _, h => by cases h
  | q :: r, H, nd, p, h => by
    obtain ⟨n1, n2⟩ := List.nodup_cons.mp nd
    show layN (upd H q.1 q.2) r p.1 = _
    rcases List.mem_cons.mp h with rfl | h
    · rw [layN_off r _ _ n1, upd_same]
    · exact layN_at r _ n2 p h
theorem inv_many {X : Cx} {pins : List (Addr × Obj)} {σ : L2.St} {H : Hp} {s : Shared} {h' : Heap} {t' : Nat} (I : Inv X pins σ H s) (k : ∀ b u, s.heap.get? b = some u → h'.get? b = some u) (ns : List (Addr × HO)) (nd : (ns.map (·.1)).Nodup)
    (ge : ∀ p ∈ ns, s.heap.objs.size ≤ p.1) (ok : ∀ p ∈ ns, ObjOk X.prog X.w (layN H ns) h' p.1 p.2) : Inv X pins σ (layN H ns) { s with heap := h', toks := t' } ∧ Same H (layN H ns) ∧ ∀ p ∈ ns, H p.1 = none := by
  have fr : ∀ p ∈ ns, H p.1 = none := fun p hp => I.hok.fresh (ge p hp)
  have old : ∀ {b : Addr} {o : HO}, H b = some o → layN H ns b = some o := fun {b o} z => by
    rw [layN_off ns H b fun hm => ?_]; exact z
    obtain ⟨p, hp, rfl⟩ := List.mem_map.mp hm
    rw [fr p hp] at z; cases z
  have oldN : ∀ {b : Addr} {u : Obj}, s.heap.get? b = some u → H b = none → layN H ns b = none := fun {b u} z n => by
    rw [layN_off ns H b fun hm => ?_]; exact n
    obtain ⟨p, hp, rfl⟩ := List.mem_map.mp hm
    exact absurd (Heap.lt_size z) (Nat.not_lt.mpr (ge p hp))
  refine ⟨I.un (t' := t') ⟨fun b o z _ _ _ => k b o z, fun b o z _ _ _ => ⟨o.slots, k b o z⟩, fun b o z n _ => oldN z n, fun b o z _ => ⟨o, k b o z⟩, fun b xs z => old z, fun b o u z => old z, fun b ps z => ⟨#[], by rw [Array.append_empty]; exact old z⟩⟩ fun b o z => ?_, fun b o z => old z, fr⟩
  by_cases hm : b ∈ ns.map (·.1)
  · obtain ⟨p, hp, rfl⟩ := List.mem_map.mp hm
    rw [layN_at ns H nd p hp] at z
    cases z
    exact ok p hp
  · rw [layN_off ns H b hm] at z
    exact (I.hok b o z).stay (fun c v _ y => k c v y) (fun c hc => old hc) fun c xs hc => old hc
theorem lt5 {a b : Nat} (h : b = a + 5) (k : Nat) (hk : k < 5) : a + k < b := by omega
theorem vals_refs : ∀ ts : List Addr, Vals (ts.map V.ref) (ts.map Value.ref)
  | [] => .nil
  | t :: ts => .cons rfl (vals_refs ts)
/-- list(zip(xs, ys)) -/
def tListZip (K : PySem.W.Frag) (ta : TA) : TE := fun σ H Q => ta σ H fun vs H1 => ∃ (a b : Addr) (xs ys : List V), vs = [.ref a, .ref b] ∧ SqL K H1 a xs ∧ SqL K H1 b ys ∧
  ∀ (p : Addr) (ts : List Addr) (H2 : Hp), H1 p = none → Same H1 H2 → H2 p = some (.lst (ts.map V.ref)) → ts.length = min xs.length ys.length → (∀ (j : Nat) (t : Addr) (x y : V), ts[j]? = some t → xs[j]? = some x → ys[j]? = some y → H2 t = some (.tup [x, y])) → Q (.ref p) H2
theorem pe_listZip {X : Cx} {e e2 : Expr} {ta : TA} {p1 p2 pos pos2 : Pos} (hc : X.calm = true) (hgd : Gl X "list") (hmd : X.mg "list" = none) (hgz : Gl X "zip") (hmz : X.mg "zip" = none) (ha : PA X [e, e2] ta)
    (hs : starEach [e, e2] X.env = (false, eval e X.env) :: starEach [e2] X.env := by rfl) (hpl : (backTo pos2 (starEach [e2] X.env)).any (·.1) = false := by rfl)
    (hse : starEach [Expr.Call (.Name "zip" p2) [e, e2] [] pos2] X.env = [(false, eval (Expr.Call (.Name "zip" p2) [e, e2] [] pos2) X.env)] := by rfl) :
    PE X (.Call (.Name "list" p1) [.Call (.Name "zip" p2) [e, e2] [] pos2] [] pos) (tListZip X.K ta) := by
  refine ⟨fun pins s σ H Q I h => ?_⟩
  refine Call_ (ld_blt I hgd hmd (by decide +kernel : bootBuiltins "list" = some (.type "list")) (PyProof.Rows.callWith_type1 (args_cons ?_ hse) hse))
  refine Call_ (ld_blt I hgz hmz PyProof.Rows.boot_zip (PyProof.Rows.callWith_type1 (thn (ha.run pos2 pins s σ H _ I h) fun us s1 ⟨vs, H1, I1, r1, q1⟩ => ?_) hs hpl))
  obtain ⟨a, b, xs, ys, ex, sa, sb, q1⟩ := q1
  subst ex
  obtain ⟨u1, u2, rfl, r1, r2⟩ := vals2 r1
  obtain rfl : u1 = Value.ref a := r1
  obtain rfl : u2 = Value.ref b := r2
  obtain ⟨its, rv, p1, z1⟩ := I1.list sa
  obtain ⟨its2, rv2, p2, z2⟩ := I1.list sb
  have la : a < s1.heap.objs.size := by obtain ⟨o, ho, _⟩ := id p1.isList; exact Heap.lt_size ho
  have lb : b < s1.heap.objs.size := by obtain ⟨o, ho, _⟩ := id p2.isList; exact Heap.lt_size ho
  refine zip_begins2 (begins_list a its.toArray) (begins_list b its2.toArray) p1.isList p2.isList fun h' hz hTI hTO g1 g2 hsz hk => args_nil ?_
  have D := PySem.W.ktu_apart s1.heap.objs.size a b la lb
  have I2 : Inv X pins σ H1 { s1 with heap := h' } := I1.kept (t' := s1.toks) hk
  have sz5 : h'.objs.size = s1.heap.objs.size + 5 := hsz
  refine callType_codes (Q₁ := fun ob s2 => ob = Value.ref h'.objs.size ∧ s2 = ⟨h'.push { cls := .type "list", data := .seq #[] }, s1.gens, s1.drawn, s1.toks, s1.os⟩) F.called_list (F.typeCall_list_1 _) F.entry_list_init (code_list_new _ ⟨rfl, rfl⟩) ?_
  rintro ob s2 ⟨rfl, rfl⟩
  have hS := Heap.get?_push_size h' (o := { cls := .type "list", data := .seq #[] }) rfl
  refine ⟨⟨_, hS, rfl⟩, F.args_list_init_2 _ _, ?_⟩
  have pu : ∀ (x : Addr) (o : Obj), h'.get? x = some o → (h'.push { cls := .type "list", data := .seq #[] }).get? x = some o := fun x o e => Heap.get?_push_of_some _ e
  have lx : xs.length = its.toArray.size := by rw [rv.length]; simp
  have ly : ys.length = its2.toArray.size := by rw [rv2.length]; simp
  have hmin : min its.toArray.size its2.toArray.size ≤ sizeLine := by rw [← lx]; exact Nat.le_trans (Nat.min_le_left _ _) z1
  refine lz_init (us := its.toArray) (vs := its2.toArray) (I.ok.hd hc) D (lt5 sz5 4 (by decide)) (lt5 sz5 2 (by decide)) (lt5 sz5 3 (by decide)) (lt5 sz5 0 (by decide)) (lt5 sz5 1 (by decide)) (Nat.lt_trans la (lt5 sz5 0 (by decide))) (Nat.lt_trans lb (lt5 sz5 0 (by decide))) hmin
    ⟨pu _ _ hTI, ⟨_, pu _ _ g1, rfl, rfl⟩, ⟨_, pu _ _ g2, rfl, rfl⟩, p1.isList.at fun o e => pu _ _ (hk _ _ e), p2.isList.at fun o e => pu _ _ (hk _ _ e), .inl ⟨pu _ _ hz, _, _, pu _ _ hTO⟩⟩ ⟨_, pu _ _ hz⟩ hS fun h3 tk acc c ts k1 k2 k3 k4 k5 => ?_
  have keep : ∀ (x : Addr) (o : Obj), s1.heap.get? x = some o → h3.get? x = some o := fun x o e => by
    have lt := Heap.lt_size e
    exact k1 x o (Nat.ne_of_lt (Nat.lt_add_right 4 lt)) (Nat.ne_of_lt (Nat.lt_add_right 3 lt)) (Nat.ne_of_lt lt) (Nat.ne_of_lt (Nat.lt_add_right 1 lt)) (Nat.ne_of_lt (Nat.lt_trans lt (lt5 sz5 0 (by decide)))) (pu _ _ (hk _ _ e))
  have lts : ts.length = min xs.length ys.length := by rw [k4, lx, ly]
  have atx : ∀ (j : Nat) (t : Addr), ts[j]? = some t → ∃ (x y : V), xs[j]? = some x ∧ ys[j]? = some y ∧ h'.objs.size < t ∧ ∃ u v, RelV x u ∧ RelV y v ∧ IsPair h3 t u v := fun j t hj => by
    obtain ⟨lt, u, v, e1, e2, e3⟩ := k5.2 j t hj
    have jl := (List.getElem?_eq_some_iff.mp hj).1
    have jx : j < xs.length := by omega
    have jy : j < ys.length := by omega
    obtain ⟨u', f1, f2⟩ := rv.get (List.getElem?_eq_getElem jx)
    obtain ⟨v', f3, f4⟩ := rv2.get (List.getElem?_eq_getElem jy)
    have e1' : its[j]? = some u := by simpa using e1
    have e2' : its2[j]? = some v := by simpa using e2
    rw [e1'] at f1
    rw [e2'] at f3
    cases f1
    cases f3
    exact ⟨_, _, List.getElem?_eq_getElem jx, List.getElem?_eq_getElem jy, lt, _, _, f2, f4, e3⟩
  -- the new objects
  let ns : List (Addr × HO) := (h'.objs.size, .lst (ts.map V.ref)) :: (ts.zip (xs.zip ys)).map fun q => (q.1, .tup [q.2.1, q.2.2])
  have nsm : ∀ p ∈ ns, p = (h'.objs.size, .lst (ts.map V.ref)) ∨ ∃ (j : Nat) (t : Addr) (x y : V), ts[j]? = some t ∧ xs[j]? = some x ∧ ys[j]? = some y ∧ p = (t, .tup [x, y]) := fun p hp => by
    rcases List.mem_cons.mp hp with h | h
    · exact .inl h
    · obtain ⟨q, hq, rfl⟩ := List.mem_map.mp h
      obtain ⟨j, hj⟩ := List.mem_iff_getElem?.mp hq
      obtain ⟨t, r⟩ := q
      rw [List.getElem?_zip_eq_some] at hj
      obtain ⟨j1, j2⟩ := hj
      obtain ⟨x, y⟩ := r
      rw [List.getElem?_zip_eq_some] at j2
      exact .inr ⟨j, t, x, y, j1, j2.1, j2.2, rfl⟩
  have e1 : ns.map (·.1) = h'.objs.size :: ts := by
    show h'.objs.size :: ((ts.zip (xs.zip ys)).map fun q => ((q.1, HO.tup [q.2.1, q.2.2]) : Addr × HO)).map (·.1) = _
    rw [List.map_map]
    congr 1
    show (ts.zip (xs.zip ys)).map Prod.fst = ts
    rw [List.map_fst_zip]
    rw [List.length_zip, lts]; exact Nat.le_refl _
  have nd : (ns.map (·.1)).Nodup := by
    rw [e1]
    refine List.nodup_cons.mpr ⟨fun hm => ?_, k5.1⟩
    obtain ⟨j, hj⟩ := List.mem_iff_getElem?.mp hm
    exact absurd (k5.2 j _ hj).1 (Nat.lt_irrefl _)
  have ge : ∀ p ∈ ns, s1.heap.objs.size ≤ p.1 := fun p hp => by
    rcases nsm p hp with rfl | ⟨j, t, x, y, a1, a2, a3, rfl⟩
    · exact Nat.le_of_lt (lt5 sz5 0 (by decide))
    · have := (k5.2 j t a1).1
      exact Nat.le_of_lt (Nat.lt_trans (lt5 sz5 0 (by decide)) this)
  have ok : ∀ p ∈ ns, ObjOk X.prog X.w (layN H1 ns) h3 p.1 p.2 := fun p hp => by
    rcases nsm p hp with rfl | ⟨j, t, x, y, a1, a2, a3, rfl⟩
    · refine ⟨by rw [List.length_map, lts]; exact Nat.le_trans (Nat.min_le_left _ _) z1, acc.toList, c, ?_, by rw [Array.toArray_toList]; exact k2⟩
      rw [k3]
      exact vals_refs ts
    · obtain ⟨x', y', b1, b2, _, u, v, r1, r2, e3⟩ := atx j t a1
      rw [a2] at b1
      rw [a3] at b2
      cases b1
      cases b2
      exact ⟨by show 2 ≤ sizeLine; decide, [u, v], .cons r1 (.cons r2 .nil), ⟨_, e3, rfl, _, rfl⟩⟩
  obtain ⟨J, sm, fr⟩ := inv_many (t' := tk) I1 keep ns nd ge ok
  · have inN := layN_at ns H1 nd
    refine ⟨rfl, V.ref h'.objs.size, _, J, rfl, q1 _ ts _ (fr _ List.mem_cons_self) sm (inN _ List.mem_cons_self) lts fun j t x y a1 a2 a3 => ?_⟩
    refine inN (t, .tup [x, y]) (List.mem_cons_of_mem _ (List.mem_map.mpr ⟨(t, x, y), ?_, rfl⟩))
    refine List.mem_iff_getElem?.mpr ⟨j, ?_⟩
    rw [List.getElem?_zip_eq_some]
    refine ⟨a1, ?_⟩
    rw [List.getElem?_zip_eq_some]
    exact ⟨a2, a3⟩
end Ts
namespace Ts
open PySem PySem.Spec PyProof.Rows L2
/-! ## rules that name the keeper -/
section
variable {X : Cx} {K : PySem.W.Frag} {e : Expr} {te : TE} {ta : TA} {p pos tpos : Pos} {f : Str} {elts : List Expr} {kk : Nat}
theorem pe_fldK (hK : X.K = K) (he : PE X e te) (hb : attributeBase e f X.env (eval e X.env) = eval e X.env) : PE X (.Attribute e f pos) (tFld K te f) := by subst hK; exact pe_fld he hb
theorem cr_sumK (hK : X.K = K) (hc : X.calm = true) : CallR X (.builtin "sum") (rSum K) := by subst hK; exact cr_sum hc
theorem pi_enumK (hK : X.K = K) (hg : Gl X "enumerate") (hm : X.mg "enumerate" = none) (ha : PA X [e] ta) (hs : starEach [e] X.env = [(false, eval e X.env)] := by rfl) : PI X (.Tuple elts kk tpos) (.Call (.Name "enumerate" p) [e] [] pos) (iEnum K ta) := by subst hK; exact pi_enum hg hm ha hs
end
theorem atI_neg {α : Type} {xs : List α} {v : α} (h : xs[xs.length - 1]? = some v) : atI xs (-1) = some v := by
  have hl : xs ≠ [] := fun e => by rw [e] at h; cases h
  obtain ⟨ys, y, rfl⟩ : ∃ ys y, xs = ys ++ [y] := ⟨xs.dropLast, xs.getLast hl, (List.dropLast_concat_getLast hl).symm⟩
  rw [List.length_append, List.getElem?_append_right (by simp)] at h
  have : y = v := by simpa using h
  rw [this]; exact atI_last ys v
theorem cut_one {xs : List V} (h : 1 ≤ xs.length) : cutV xs (some 1) none = xs.drop 1 := by
  have e : HT.sIx xs.length 0 (some 1) = 1 := by
    show (if (1 : Int) < 0 then ((1 : Int) + (xs.length : Int)).toNat else min (1 : Int).toNat xs.length) = _
    rw [if_neg (by decide)]
    exact Nat.min_eq_left h
  unfold cutV
  rw [e, HT.sIx_none, List.take_of_length_le (by rw [List.length_drop]; exact Nat.le_refl _)]
/-! ## a walk -/
structure WalkC (K : PySem.W.Frag) (mg : Str → Option Value) (C : Addr) : Prop where
  cl : Cls K C
  nticks : PySem.W.findIn K (.ref C) "ticks" = some none
  nmost : PySem.W.findIn K (.ref C) "most" = some none
  nsizes : PySem.W.findIn K (.ref C) "sizes" = some none
  nparts : PySem.W.findIn K (.ref C) "parts" = some none
  nlows : PySem.W.findIn K (.ref C) "lows" = some none
  ndoubles : PySem.W.findIn K (.ref C) "doubles" = some none
  ngrown : PySem.W.findIn K (.ref C) "grown" = some none
  nliving : PySem.W.findIn K (.ref C) "living" = some none
  mgC : mg "Walk" = some (.ref C)
def lowsR (js : List Job) (t : Nat) : List Int := js.map fun j => lowI j.2.1 j.2.2 (t : Int)
def doubN (js : List Job) (t : Nat) : Nat := crewN (posL (fun j : Job => decide (lowI j.2.1 j.2.2 (t : Int) < highI j.2.1 j.2.2 (t : Int))) js 0)
def growN (js : List Job) (t : Nat) : Nat := grownL (lowsR js t) (lowsR js (t + 1))
def naL (n : Nat) : List Nat := (List.range n).map (notAheadN n)
def livK (js : List Job) (hs : List Nat) : Nat → Nat
  | 0 => possN js.length (doubN js hs.length)
  | k + 1 => beforeN (livK js hs k) (growN js (hs.length - (k + 1))) (naL js.length) (hs.getD (hs.length - (k + 1)) 0) &&& possN js.length (doubN js (hs.length - (k + 1)))
def livL (js : List Job) (hs : List Nat) : List Nat := if livK js hs hs.length = 0 then List.replicate (hs.length + 1) 0 else (List.range (hs.length + 1)).map fun m => livK js hs (hs.length - m)
def Seq (K : PySem.W.Frag) (H : Hp) (a : Addr) (xs : List V) : Prop := SqL K H a xs ∨ SqT K H a xs
theorem Seq.mono {K : PySem.W.Frag} {H H' : Hp} {a : Addr} {xs : List V} (h : Seq K H a xs) (s : Same H H') : Seq K H' a xs := h.imp (fun z => s.seq z) fun z => sameT s z
abbrev rowsD (js : List Job) (m : Nat) : List PyData := (List.range m).map fun t => PyData.list ((lowsR js t).map PyData.int)
/-- the fields of a walk but the last one -/
structure WalkF (K : PySem.W.Frag) (H : Hp) (fs : List (Str × V)) (js : List Job) (hs : List Nat) : Prop where
  ticks : fs.lookup ("ticks" : Str) = some (.int (hs.length : Int))
  most : ∃ a, fs.lookup ("most" : Str) = some (.ref a) ∧ Seq K H a (natV hs)
  sizes : ∃ a, fs.lookup ("sizes" : Str) = some (.ref a) ∧ SqL K H a (natV (sizesN js.length))
  parts : ∃ v, fs.lookup ("parts" : Str) = some v ∧ Dp K H v (.list (subsD js.length))
  lows : ∃ v, fs.lookup ("lows" : Str) = some v ∧ Dp K H v (.list (rowsD js (hs.length + 1)))
  doubles : ∃ a, fs.lookup ("doubles" : Str) = some (.ref a) ∧ SqL K H a (natV ((List.range (hs.length + 1)).map (doubN js)))
  grown : ∃ a, fs.lookup ("grown" : Str) = some (.ref a) ∧ SqL K H a (natV ((List.range hs.length).map (growN js)))
theorem WalkF.mono {K : PySem.W.Frag} {H H' : Hp} {fs : List (Str × V)} {js : List Job} {hs : List Nat} (h : WalkF K H fs js hs) (s : Same H H') : WalkF K H' fs js hs := by
  obtain ⟨a, ⟨b1, b2, b3⟩, ⟨c1, c2, c3⟩, ⟨d1, d2, d3⟩, ⟨e1, e2, e3⟩, ⟨f1, f2, f3⟩, ⟨g1, g2, g3⟩⟩ := h
  exact ⟨a, ⟨b1, b2, b3.mono s⟩, ⟨c1, c2, s.seq c3⟩, ⟨d1, d2, d3.mono s⟩, ⟨e1, e2, e3.mono s⟩, ⟨f1, f2, s.seq f3⟩, ⟨g1, g2, s.seq g3⟩⟩
structure WalkAt (K : PySem.W.Frag) (C : Addr) (H : Hp) (a : Addr) (js : List Job) (hs : List Nat) : Prop where
  ex : ∃ dx fs, H a = some (.ins C dx fs) ∧ WalkF K H fs js hs ∧ (∃ p, fs.lookup ("living" : Str) = some (.ref p) ∧ SqL K H p (natV (livL js hs))) ∧ fs.lookup ("crews" : Str) = none ∧ fs.lookup ("is_alive" : Str) = none ∧ fs.lookup ("choices" : Str) = none ∧ fs.lookup ("ahead_behind" : Str) = none ∧ fs.lookup ("ahead_before" : Str) = none ∧ fs.lookup ("numbers_of" : Str) = none
theorem WalkAt.mono {K : PySem.W.Frag} {C : Addr} {H H' : Hp} {a : Addr} {js : List Job} {hs : List Nat} (h : WalkAt K C H a js hs) (s : Same H H') : WalkAt K C H' a js hs := by
  obtain ⟨dx, fs, h1, h2, ⟨p, h3, h4⟩, h5⟩ := h.ex
  exact ⟨dx, fs, s _ _ h1, h2.mono s, ⟨p, h3, s.seq h4⟩, h5⟩
/-! ## what is asked -/
def spLivingOf (K : PySem.W.Frag) (C : Addr) : Sp := fun vs H Q _ => ∃ (a dx : Addr) (fs : List (Str × V)) (js : List Job) (hs : List Nat), vs = [.ref a, .int (js.length : Int)] ∧ H a = some (.ins C dx fs) ∧ WalkF K H fs js hs ∧ js.length ≤ 6 ∧ hs.length ≤ 990 ∧ (∀ m ∈ hs, m ≤ 1000) ∧
  ∀ (p : Addr) (H' : Hp), H p = none → Same H H' → H' p = some (.lst (natV (livL js hs))) → Q (.ref p) H'
theorem rgc_down {n : Nat} (h : n ≤ 1000) : RgC ((n : Int) - 1) (-1) (-1) n := by
  have go : ∀ n : Fin 1001, Builtin.Range.small (((n.val : Nat) : Int) - 1) (-1) (-1) = true ∧ Builtin.Range.rangeSize (((n.val : Nat) : Int) - 1) (-1) (-1) = ((n.val : Nat) : Int) := by decide +kernel
  exact ⟨by decide, by decide, (go ⟨n, by omega⟩).1, (go ⟨n, by omega⟩).2⟩
theorem range_rev {α : Type} (g : Nat → α) (n : Nat) : ((List.range (n + 1)).map g).reverse = (List.range (n + 1)).map fun m => g (n - m) := by
  refine List.ext_getElem? fun i => ?_
  by_cases h : i < n + 1
  · rw [List.getElem?_reverse (by rw [List.length_map, List.length_range]; exact h), List.length_map, List.length_range, List.getElem?_map, List.getElem?_map, List.getElem?_range (by omega), List.getElem?_range h]
    show some (g (n + 1 - 1 - i)) = some (g (n - i))
    congr 2
  · rw [List.getElem?_eq_none (by rw [List.length_reverse, List.length_map, List.length_range]; omega), List.getElem?_eq_none (by rw [List.length_map, List.length_range]; omega)]
/-! ## bounds -/
theorem doub_lt (js : List Job) (t : Nat) : doubN js t < 2 ^ js.length := posL_lt0 _ _
theorem grown_lt (js : List Job) (t : Nat) : growN js t < 2 ^ js.length := by
  unfold growN grownL
  have h := posL_lt0 (fun q : Int × Int => decide (q.1 < q.2)) ((lowsR js t).zip (lowsR js (t + 1)))
  have e : ((lowsR js t).zip (lowsR js (t + 1))).length = js.length := by
    rw [List.length_zip]; unfold lowsR; rw [List.length_map, List.length_map, Nat.min_self]
  rw [e] at h; exact h
theorem na_lt {n : Nat} (h : n ≤ 6) : ∀ o ∈ naL n, o < 2 ^ 64 := by
  have go : ∀ n : Fin 7, ∀ o ∈ naL n.val, o < 2 ^ 64 := by decide +kernel
  exact go ⟨n, by omega⟩
theorem poss_at {n c : Nat} (h : c < 2 ^ n) : ((subsN n).map crewN)[c]? = some (possN n c) := by
  have hl : c < (subsN n).length := by rw [subs_len]; exact h
  rw [List.getElem?_map, List.getElem?_eq_getElem hl]
  unfold possN
  rw [List.getD_eq_getElem?_getD, List.getElem?_eq_getElem hl]; rfl
/-! ## what stays when an object gets a field -/
section
variable {K : PySem.W.Frag} {H H' : Hp} {a : Addr} {o : HO}
theorem dp_but {v : V} {d : PyData} (ha : H a = some o) (n : NoSeq o) (b : But a H H') (h : Dp K H v d) : Dp K H' v d := ((h.hide ha n).mono b.hid).mono hid_sub
theorem sql_but {p : Addr} {xs : List V} (ha : H a = some o) (n : NoSeq o) (b : But a H H') (h : SqL K H p xs) : SqL K H' p xs := hid_sub.seq (b.hid.seq (h.hide ha n))
theorem sqt_but {p : Addr} {xs : List V} (ha : H a = some o) (n : NoSeq o) (b : But a H H') (h : SqT K H p xs) : SqT K H' p xs := sameT hid_sub (sameT b.hid (h.hide ha n))
theorem dpa_but {vs : List V} {ds : List PyData} (ha : H a = some o) (n : NoSeq o) (b : But a H H') (h : DpAll K H vs ds) : DpAll K H' vs ds := ((h.hide ha n).mono b.hid).mono hid_sub
theorem seq_but {p : Addr} {xs : List V} (ha : H a = some o) (n : NoSeq o) (b : But a H H') (h : Seq K H p xs) : Seq K H' p xs := h.imp (sql_but ha n b) (sqt_but ha n b)
end
def spInitW (K : PySem.W.Frag) (C : Addr) : Sp := fun vs H Q _ => ∃ (a dx ps ph : Addr) (xs : List V) (js : List Job) (hs : List Nat), vs = [.ref a, .ref ps, .ref ph] ∧ H a = some (.ins C dx []) ∧ SqT K H ps xs ∧ DpAll K H xs (sharesD js) ∧ Seq K H ph (natV hs) ∧ Good 16 js ∧ js.length ≤ 6 ∧ hs.length ≤ 990 ∧ (∀ m ∈ hs, m ≤ 1000) ∧
  ∀ H', But a H H' → WalkAt K C H' a js hs → Q .non H'
abbrev numsD (js : List Job) (m : Nat) : List PyData := (List.range m).map fun t : Nat => PyData.list (js.map (lohiD ((t : Nat) : Int)))
end Ts
namespace Ts
open PySem PySem.Spec PyProof.Rows L2
/-! ## what a walk tells -/
def aliveB (js : List Job) (hs : List Nat) (m c : Nat) : Bool := decide ((livL js hs).getD m 0 / 2 ^ c % 2 = 1)
def crewsN (js : List Job) (hs : List Nat) (m a : Nat) : List Nat :=
  (((subsN js.length).getD (needN (doubN js (m + 1)) (xorN (growN js m) a)) []).filter fun p => decide ((sizesN js.length).getD p 0 + (sizesN js.length).getD (needN (growN js m) a) 0 ≤ hs.getD m 0)).map (needN (growN js m) a + ·)
def choicesN (js : List Job) (hs : List Nat) (m a : Nat) : List Nat := (crewsN js hs m a).filter fun c => (livL js hs).getD (m + 1) 0 / 2 ^ (a + c - growN js m) % 2 == 1
def spAlive (K : PySem.W.Frag) (C : Addr) : Sp := fun vs H Q _ => ∃ (a : Addr) (m c : Nat) (js : List Job) (hs : List Nat), vs = [.ref a, .int (m : Int), .int (c : Int)] ∧ WalkAt K C H a js hs ∧ m ≤ hs.length ∧ Q (.bl (aliveB js hs m c)) H
def spCrews (K : PySem.W.Frag) (C : Addr) : Sp := fun vs H Q _ => ∃ (a : Addr) (m c : Nat) (js : List Job) (hs : List Nat), vs = [.ref a, .int (m : Int), .int (c : Int)] ∧ WalkAt K C H a js hs ∧ js.length ≤ 6 ∧ m < hs.length ∧
  ∀ (p : Addr) (H' : Hp), H p = none → Same H H' → H' p = some (.lst (natV (crewsN js hs m c))) → Q (.ref p) H'
def spChoicesW (K : PySem.W.Frag) (C : Addr) : Sp := fun vs H Q _ => ∃ (a : Addr) (m c : Nat) (js : List Job) (hs : List Nat), vs = [.ref a, .int (m : Int), .int (c : Int)] ∧ WalkAt K C H a js hs ∧ js.length ≤ 6 ∧ m < hs.length ∧
  ∀ (p : Addr) (H' : Hp), H p = none → Same H H' → H' p = some (.lst (natV (choicesN js hs m c))) → Q (.ref p) H'
theorem liv_len (js : List Job) (hs : List Nat) : (livL js hs).length = hs.length + 1 := by
  unfold livL
  split
  · rw [List.length_replicate]
  · rw [List.length_map, List.length_range]
theorem getD_at {l : List Nat} {i : Nat} (h : i < l.length) : (natV l)[i]? = some (V.int ((l.getD i 0 : Nat) : Int)) := by
  rw [List.getElem?_map, List.getElem?_eq_getElem h, List.getD_eq_getElem?_getD, List.getElem?_eq_getElem h]; rfl
theorem getD_range (g : Nat → Nat) {n i : Nat} (h : i < n) : ((List.range n).map g).getD i 0 = g i := by
  rw [List.getD_eq_getElem?_getD, List.getElem?_map, List.getElem?_range h]; rfl
theorem crews_in {js : List Job} {hs : List Nat} {m a : Nat} : ∀ c ∈ crewsN js hs m a, growN js m ≤ a + c ∧ c < 2 ^ js.length + 2 ^ js.length := fun c hc => by
  unfold crewsN at hc
  obtain ⟨p, hp, rfl⟩ := List.mem_map.mp hc
  have hp := (List.mem_filter.mp hp).1
  have h1 := need_ge (growN js m) a
  have h2 := need_le (growN js m) a
  have h3 := grown_lt js m
  refine ⟨by omega, ?_⟩
  have hl : needN (doubN js (m + 1)) (xorN (growN js m) a) < (subsN js.length).length := by
    rw [subs_len]
    exact Nat.lt_of_le_of_lt (need_le _ _) (doub_lt js (m + 1))
  rw [List.getD_eq_getElem?_getD, List.getElem?_eq_getElem hl] at hp
  have := (subs_in js.length _ (List.getElem_mem hl)).2 p hp
  omega
theorem crews_len {js : List Job} {hs : List Nat} {m a : Nat} (l6 : js.length ≤ 6) : (crewsN js hs m a).length ≤ 64 := by
  unfold crewsN
  rw [List.length_map]
  refine Nat.le_trans (List.length_filter_le _ _) ?_
  have hl : needN (doubN js (m + 1)) (xorN (growN js m) a) < (subsN js.length).length := by
    rw [subs_len]
    exact Nat.lt_of_le_of_lt (need_le _ _) (doub_lt js (m + 1))
  rw [List.getD_eq_getElem?_getD, List.getElem?_eq_getElem hl]
  exact Nat.le_trans (subs_in js.length _ (List.getElem_mem hl)).1 (Nat.le_trans (Nat.pow_le_pow_right (by decide) l6) (by decide))
end Ts
namespace Ts
open PySem PySem.Spec PyProof.Rows L2
/-! ## rows of numbers sorted, the first of them empty -/
theorem first_lex : ∀ (ns ms : List Int) (fin : Bool), fin = decide (ns.length < ms.length) → SeqAt.firstLt (fun j => decide (ns.getD j 0 = ms.getD j 0)) (fun j => decide (ns.getD j 0 < ms.getD j 0)) fin (List.range (min ns.length ms.length)) = HT.lexLt ns ms := by
  intro ns
  induction ns with
  | nil =>
    intro ms fin hf
    rw [List.length_nil, Nat.zero_min, List.range_zero]
    show fin = _
    cases ms with
    | nil => rw [HT.lexLt_nil_nil, hf]; rfl
    | cons y ms => rw [HT.lexLt_nil_cons, hf]; exact decide_eq_true (by simp)
  | cons x ns ih =>
    intro ms fin hf
    cases ms with
    | nil =>
      rw [List.length_nil, Nat.min_zero, List.range_zero]
      show fin = _
      rw [HT.lexLt_cons_nil, hf]; exact decide_eq_false (by simp)
    | cons y ms =>
      rw [HT.lexLt_cons, List.length_cons, List.length_cons, Nat.succ_min_succ, List.range_succ_eq_map]
      show (if decide (x = y) = true then SeqAt.firstLt _ _ fin ((List.range (min ns.length ms.length)).map Nat.succ) else decide (x < y)) = _
      by_cases e : x = y
      · rw [if_pos (decide_eq_true e), if_pos e, W.firstLt_map]
        exact ih ms fin (by rw [hf]; simp)
      · rw [if_neg (by simpa using e), if_neg e]
section
variable {prog : Program} {w : World} {A : Around} {E : Value → Shared → Prop} {s : Shared}
theorem ints_at {vs : List Value} {ns : List Int} (h : IntsAre vs ns) : vs.length = ns.length ∧ ∀ (j : Nat) (h1 : j < vs.length), ∃ t, vs[j] = Value.int (ns.getD j 0) t := by
  induction h with
  | nil => exact ⟨rfl, fun j h => absurd h (Nat.not_lt_zero _)⟩
  | cons n t _ ih =>
    refine ⟨by rw [List.length_cons, List.length_cons, ih.1], fun j h1 => ?_⟩
    cases j with
    | zero => exact ⟨t, rfl⟩
    | succ j => exact ih.2 j (by simpa using h1)
/-- x < y of two rows, by their own way to compare -/
theorem rows_one (hu : A.units < cLine) {x y : Value} {ns ms : List Int} (hx : TS.TupInts s.heap x ns) (hy : TS.TupInts s.heap y ms) {Q : Bool → Shared → Prop} (q : Q (HT.lexLt ns ms) s) : wpAny (model prog w) A (oneLt' true x y) Q E s := by
  obtain ⟨a, xs, rfl, ⟨⟨c1, dd, dt, sl⟩, ho, hc, n, hd⟩, i1⟩ := hx
  obtain ⟨b, ys, rfl, ⟨⟨c2, dd2, dt2, sl2⟩, ho2, hc2, n2, hd2⟩, i2⟩ := hy
  dsimp only at hc hd hc2 hd2
  subst hc hd hc2 hd2
  obtain ⟨l1, a1⟩ := ints_at i1
  obtain ⟨l2, a2⟩ := ints_at i2
  rw [Array.length_toList] at l1 l2
  rw [oneLt'_eq]
  show wpAny _ _ (cRoomFor "comparison" [Value.ref a, Value.ref b] >>= fun _ => callSpecialIfBound? (.ref a) (Str.ofString "__lt__") [.ref b] >>= fun r => _) _ _ _
  refine wpAny_bind (wpAny_cRoomFor hu ?_)
  refine wpAny_bind (wpAny_callSpecialIfBound?_slot (T := "tuple") ⟨_, ho, rfl⟩ PySem.F.slot_tuple_lt ?_)
  refine call_meets PySem.F.slot_tuple_lt ⟨_, ho, rfl⟩ PySem.F.entry_tuple_lt (PySem.F.args_tuple_lt_2 _ _) (SeqAt.tuple_ltAt a b xs ys n n2 dd dd2 sl sl2 (fun j => decide (ns.getD j 0 = ms.getD j 0)) (fun j => decide (ns.getD j 0 < ms.getD j 0))) ⟨ho, ho2, fun j h1 h2 => ?_, fun j h1 h2 _ => ?_, ?_⟩
  · obtain ⟨t, e1⟩ := a1 j (by rw [Array.length_toList]; exact h1)
    obtain ⟨u, e2⟩ := a2 j (by rw [Array.length_toList]; exact h2)
    rw [Array.getElem_toList] at e1 e2
    rw [e1, e2]
    have := SeqAt.EqAt.int_int (A := A.in1) (s := s) (ns.getD j 0) t (ms.getD j 0) u
    exact this
  · obtain ⟨t, e1⟩ := a1 j (by rw [Array.length_toList]; exact h1)
    obtain ⟨u, e2⟩ := a2 j (by rw [Array.length_toList]; exact h2)
    rw [Array.getElem_toList] at e1 e2
    rw [e1, e2]
    exact fun prog w E Q h => PySem.P.lt_int h
  · rw [l1, l2, first_lex ns ms _ rfl]
    exact wpAny_truthy_bool q
theorem types_go : ∀ (vs : List Value) {Q : List Value → Shared → Prop}, (∀ v ∈ vs, ∃ ns, TS.TupInts s.heap v ns) → Q (List.replicate vs.length (.type "tuple")) s → wpAny (model prog w) A (List.mapM typeOf vs) Q E s
  | [], Q, _, q => by rw [List.mapM_nil]; exact wpAny_pure q
  | v :: vs, Q, g, q => by
    rw [List.mapM_cons]
    obtain ⟨ns, a, xs, rfl, ⟨o, ho, hc, n, hd⟩, _⟩ := g v List.mem_cons_self
    refine wpAny_bind (wpAny_typeOf (T := "tuple") ⟨o, ho, hc⟩ (wpAny_bind ?_))
    exact types_go vs (fun u hu => g u (List.mem_cons_of_mem _ hu)) (wpAny_pure q)
theorem firsts_go : ∀ (vs : List Value) {Q : List (Option Value) → Shared → Prop}, (∀ v ∈ vs, ∃ ns, TS.TupInts s.heap v ns) → (∀ l : List (Option Value), (∀ (v : Value) (r : List Value), vs = v :: r → TS.TupInts s.heap v [] → l[0]? = some none) → Q l s) → wpAny (model prog w) A (List.mapM firstOfTuple' vs) Q E s
  | [], Q, _, q => by rw [List.mapM_nil]; exact wpAny_pure (q [] fun v r e => by cases e)
  | v :: vs, Q, g, q => by
    rw [List.mapM_cons]
    obtain ⟨ns, a, xs, rfl, ⟨o, ho, hc, n, hd⟩, hi⟩ := g v List.mem_cons_self
    refine wpAny_bind (show wpAny _ _ (typeOf (.ref a) >>= fun t => if (t != Value.type "tuple") = true then pure none else Builtin.List.listItems (.ref a) >>= fun xs => pure xs[0]?) _ _ _ from ?_)
    refine wpAny_bind (wpAny_typeOf (T := "tuple") ⟨o, ho, hc⟩ ?_)
    rw [if_neg (by decide)]
    refine wpAny_bind (show wpAny _ _ (Builtin.List.listItems (.ref a)) _ _ _ from ?_)
    unfold Builtin.List.listItems
    refine wpAny_bind (wpAny_seqItems ho hd (wpAny_pure (wpAny_pure (wpAny_bind ?_))))
    refine firsts_go vs (fun u hu => g u (List.mem_cons_of_mem _ hu)) fun l _ => wpAny_pure (q _ fun v r e hv => ?_)
    obtain ⟨a2, xs2, e2, ⟨o2, ho2, _, n2, hd2⟩, hi2⟩ := hv
    cases e
    cases e2
    rw [ho] at ho2
    cases ho2
    rw [hd] at hd2
    cases hd2
    have : xs.toList = [] := by cases h : xs.toList with
      | nil => rfl
      | cons y ys => rw [h] at hi2; cases hi2
    have e0 : xs[0]? = none := by
      have := congrArg (fun l : List Value => l[0]?) this
      simpa using this
    rw [e0]; rfl
theorem kind_one {v : Value} {vs : List Value} (h0 : TS.TupInts s.heap v []) (g : ∀ u ∈ v :: vs, ∃ ns, TS.TupInts s.heap u ns) {Q : SortKind → Shared → Prop} (q : Q oneType' s) : wpAny (model prog w) A (keyKind' (v :: vs).toArray) Q E s := by
  rw [keyKind'_eq, List.mapM_toArray, map_eq_pure_bind]
  refine wpAny_bind (wpAny_bind (firsts_go (v :: vs) g fun l hl => wpAny_pure ?_))
  have e0 := hl v vs rfl h0
  have c1 : l.toArray.all (fun x => x.isSome) = false := by
    rw [List.all_toArray']
    cases l with
    | nil => cases e0
    | cons y l => cases e0; rfl
    rfl
  rw [if_neg (by rw [c1]; decide)]
  have c2 : (l.toArray[0]?.bind id).isSome = false := by
    have : l.toArray[0]? = some none := by simpa using e0
    rw [this]; rfl
  rw [if_neg (by rw [c2]; decide)]
  refine wpAny_bind (show wpAny _ _ (Array.mapM typeOf (v :: vs).toArray >>= fun ts => match ts[0]? with | some t => pure (if (ts.all fun x => x == t) = true then some t else none) | none => pure none) _ _ _ from ?_)
  rw [List.mapM_toArray, map_eq_pure_bind]
  refine wpAny_bind (wpAny_bind (types_go (v :: vs) g (wpAny_pure ?_)))
  have c3 : (List.replicate (v :: vs).length (Value.type "tuple")).toArray.all (fun x => x == Value.type "tuple") = true := by
    rw [List.all_toArray', List.all_eq_true]
    · intro x hx
      rw [List.eq_of_mem_replicate hx]; exact beq_self_eq_true _
    · rfl
  have c4 : (List.replicate (v :: vs).length (Value.type "tuple")).toArray[0]? = some (Value.type "tuple") := by
    rw [List.length_cons, List.replicate_succ]; rfl
  rw [c4]
  dsimp only
  rw [if_pos c3]
  exact wpAny_pure (wpAny_pure q)
theorem rows_cmp1 (hu : A.units < cLine) {vs : List Value} {k : Value → List Int} (hp : ∀ v ∈ vs, TS.TupInts s.heap v (k v)) : SrtO.Cmp prog w A s oneType' (fun p => p.1 ∈ vs) (SrtO.lt2 (ltL k)) := by
  intro p q h1 h2
  show wpAny (model prog w) A (oneLt' true p.1 q.1) (fun r s' => s' = s ∧ r = HT.lexLt (k p.1) (k q.1)) (fun _ _ => False) s
  exact rows_one hu (hp _ h1) (hp _ h2) ⟨rfl, rfl⟩
theorem rows_sortedE (hu : A.in1.in1.units < cLine) {l : Addr} {vs : List Value} {k : Value → List Int} {Q : Value → Shared → Prop} (hl : s.heap.IsList l vs.toArray) (hz : vs.length ≤ sizeLine) (hp : ∀ v ∈ vs, TS.TupInts s.heap v (k v)) (h1 : ∀ v ∈ vs.tail, 1 ≤ (k v).length)
    (h : ∀ (h2 : Heap) (d : Addr) (out : List Value), SrtO.Srtd (ltL k) out → SrtO.Stb (ltL k) out vs → (∀ b o, s.heap.get? b = some o → h2.get? b = some o) → s.heap.objs.size ≤ d → (∃ n, h2.get? d = some (seqObj "list" out.toArray n)) → Q (.ref d) { s with heap := h2 }) :
    wpAny (model prog w) A (call (.builtin "sorted") [.ref l]) Q E s := by
  refine SrtO.sorted_ord (NtL.swo_lexL k) hl hz (fun g2 h₁ a ha kk => ?_) fun out hs hb => ?_
  · have not : ∀ o, h₁.get? a = some o → o.cls ≠ .type "tuple" := fun o e => by
      have e2 : some o = some (seqObj "list" vs.toArray 0) := e.symm.trans ha
      cases e2
      exact fun c => absurd (Value.type.inj c) (by decide)
    have g1 : ∀ v ∈ vs, TS.TupInts h₁ v (k v) := fun v z => (hp v z).keeps fun b o e _ => (kk b o e).2
    match vs, g1, h1, g2 with
    | v :: vs, g1, h1, g2 =>
      by_cases c : k v = []
      · intro h2 keep
        have g : ∀ u ∈ v :: vs, TS.TupInts h2 u (k u) := fun u z => (g1 u z).keeps fun b o e c => keep b o (fun y => by subst y; exact not o e c) e
        refine ⟨oneType', fun Q E hq => ?_, rows_cmp1 hu g⟩
        have g0 := g v List.mem_cons_self
        rw [c] at g0
        exact kind_one (s := { s with heap := h2 }) g0 (fun u hu => ⟨_, g u hu⟩) hq
      · refine rows_able (s := { s with heap := h₁ }) (by omega) (fun u z => ⟨g1 u z, ?_⟩) not
        rcases List.mem_cons.mp z with rfl | z
        · cases e : k u with
          | nil => exact absurd e c
          | cons _ _ => simp
        · exact h1 u z
  · exact h _ _ out hs hb (fun b o e => sortedAll_old e) (Nat.le_succ _) (sortedAll_at s.heap vs out.toArray)
end
/-- sorted(xs), xs a list of rows of numbers, the first one perhaps empty -/
def rSortE (K : PySem.W.Frag) : List V → Hp → VK → Prop := fun vs H Q => ∃ (a : Addr) (xs : List V) (rows : List (List Int)), vs = [V.ref a] ∧ SqL K H a xs ∧ DpAll K H xs (rows.map rowD) ∧ (∀ r ∈ rows.tail, 1 ≤ r.length) ∧
  ∀ (ys : List V) (rows2 : List (List Int)) (p : Addr), DpAll K H ys (rows2.map rowD) → SrtO.Srtd HT.lexLt rows2 → SrtO.Stb HT.lexLt rows2 rows → H p = none → Q (.ref p) (upd H p (.lst ys))
theorem tail_map {α β : Type} (f : α → β) : ∀ l : List α, (l.map f).tail = l.tail.map f
  | [] => rfl
  | _ :: _ => rfl
theorem cr_sortE {X : Cx} (hu : X.A.in1.in1.units < cLine) : CallR X (.builtin "sorted") (rSortE X.K) := by
  intro pins s σ H vs us Q I r h
  obtain ⟨a, xs, rows, rfl, hs, hx, hl, q⟩ := h
  have at_row : ∀ (i : Nat) (x : V), xs[i]? = some x → ∃ (r : List Int) (t : Addr), rows[i]? = some r ∧ x = .ref t ∧ SqT X.K H t (r.map V.int) := fun i x e => by
    obtain ⟨d, hd, hv⟩ := hx.get e
    rw [List.getElem?_map] at hd
    cases er : rows[i]? with
    | none => rw [er] at hd; cases hd
    | some r0 =>
      rw [er] at hd
      cases Option.some.inj hd
      obtain ⟨t, rz, rfl, h1, h2⟩ := hv.tuple
      cases h2.ints_eq
      exact ⟨r0, t, rfl, rfl, h1⟩
  let k : V → List Int := fun x => match x with
    | .ref t => TS.intsOf s.heap (.ref t)
    | _ => []
  have kt : ∀ {t : Addr} {r : List Int}, SqT X.K H t (r.map V.int) → k (.ref t) = r := fun h => (tupI_raw I h).ints
  have lx : xs.length = rows.length := by rw [hx.length, List.length_map]
  have ek : xs.map k = rows := by
    refine List.ext_getElem? fun i => ?_
    rw [List.getElem?_map]
    cases e : xs[i]? with
    | none => rw [List.getElem?_eq_none_iff] at e; exact (List.getElem?_eq_none_iff.mpr (by omega)).symm
    | some x =>
      obtain ⟨r0, t, er, rfl, ht⟩ := at_row i x e
      rw [er]
      show some (k (.ref t)) = some r0
      rw [kt ht]
  have mem_row : ∀ x ∈ xs, ∃ t, x = V.ref t ∧ SqT X.K H t ((k x).map V.int) := fun x m => by
    obtain ⟨i, e⟩ := List.mem_iff_getElem?.mp m
    obtain ⟨r0, t, er, rfl, ht⟩ := at_row i x e
    rw [kt ht]
    exact ⟨t, rfl, ht⟩
  obtain ⟨its, rv, hl2, hz⟩ := I.list hs
  rw [Vals.ref1 r]
  obtain ⟨e1, e2⟩ := bkV_refs rv fun x m => by
    obtain ⟨t, e, _⟩ := mem_row x m
    exact ⟨t, e⟩
  refine rows_sortedE hu (k := fun u => k (bkV u)) hl2.isList (by rw [← rv.length]; exact hz) (fun v hv => ?_) (fun v hv => ?_) fun h2 d out o1 o2 kp hd hn => ?_
  · obtain ⟨t, rfl⟩ := e2 v hv
    obtain ⟨t2, e, ht⟩ := mem_row (.ref t) (by rw [e1]; exact List.mem_map.mpr ⟨_, hv, rfl⟩)
    cases e
    exact tupI_raw I ht
  · refine hl _ ?_
    rw [← ek, tail_map, e1, tail_map, List.map_map]
    exact List.mem_map.mpr ⟨v, hv, rfl⟩
  · have h3 : ∀ u ∈ out, ∃ a, u = Value.ref a := fun u hu => e2 u (o2.perm.mem_iff.mp hu)
    obtain ⟨n, hn⟩ := hn
    have hb : SrtO.Stb (ltL k) (out.map bkV) xs := by
      rw [e1]
      exact SrtO.Stb.map (NtL.swo_lexL k) bkV o2
    have all : ∀ zs : List V, (∀ z ∈ zs, z ∈ xs) → DpAll X.K H zs ((zs.map k).map rowD) := by
      intro zs
      induction zs with
      | nil => intro _; exact .nil
      | cons z zs ih =>
        intro g
        obtain ⟨t, e, ht⟩ := mem_row z (g z List.mem_cons_self)
        refine .cons ?_ (ih fun y m => g y (List.mem_cons_of_mem _ m))
        rw [e] at ht ⊢
        exact .tup ht (DpAll.ints _)
    have st := SrtO.Stb.map (NtL.swo_lexL (fun x : List Int => x)) k (l := out.map bkV) (m := xs) hb
    rw [ek] at st
    refine ⟨.ref d, upd H d (.lst (out.map bkV)), I.laid (t' := s.toks) kp hd ⟨?_, out, n, bkV_vals h3, hn⟩, rfl, q (out.map bkV) ((out.map bkV).map k) d (all _ fun z m => hb.perm.mem_iff.mp m) (SrtO.srtd_map (f := k) (lt := HT.lexLt) (SrtO.srtd_map o1)) st (I.hok.fresh hd)⟩
    rw [hb.len]
    exact hz
end Ts
namespace Ts
open PySem PySem.Spec PyProof.Rows L2 L2H LamX
/-! ## what is heard of the functions of logs -/
/-- what repr says of what is wrong -/
structure ShIs (K : PySem.W.Frag) (u : V) (d : PyData) : Prop where
  dp : ∀ H : Hp, Dp K H u d
  sh : d.showable = true
  nd : d.hasDict = false
  dep : d.depth < 60
  len : d.shown.length ≤ sizeLine
  eq : shV u = d.shown
  ok : PyData.strOk d.shown = true
theorem ShIs.shown {K : PySem.W.Frag} {u : V} {d : PyData} (h : ShIs K u d) (H : Hp) : ShownV K H u (shV u) := ⟨d, h.dp H, h.sh, h.nd, h.dep, h.len, h.eq⟩
/-! ## what the law asks, where lambdas are made -/
def spRightT (T : List (Addr × Str)) : Sp := fun vs H Q _ => ∃ b : Addr, vs = [.ref b] ∧ Bas H b ∧ Tabs T H ∧ ∀ H', Ext2 b H H' → Tabs T H' → Q (.bl true) H'
end Ts
namespace Ts
open PySem PySem.Spec PyProof.Rows L2 L2H LamX
/-- the table of the code of a def that makes lambdas -/
abbrev lamT (PT : Addr) (q : Str) : List (Addr × Str) := [(PT, q ++ ".<locals>." ++ "<lambda>")]
/-! ## the list of what was told, call by call -/
structure Ph (T : List (Addr × Str)) (b lt : Addr) (due : Option (Str × Str)) (H5 Hn : Hp) (xs : List V) (ws : List (Str × Str)) : Prop where
  B : Bas Hn b
  T : Tabs T Hn
  l : Hn lt = some (.lst xs)
  ps : Pairs (hid2 lt Hn) xs ws
  fs : ∀ w ∈ ws, Fits due w
  nb : lt ≠ b
  s : ExtN H5 (hid2 lt Hn)
theorem Ph.x {T : List (Addr × Str)} {b lt : Addr} {due : Option (Str × Str)} {H5 Hn : Hp} {xs : List V} {ws : List (Str × Str)} (h : Ph T b lt due H5 Hn xs ws) : ExtN H5 Hn := h.s.trans (ExtN.of hid2_sub)
theorem Ph.first {T : List (Addr × Str)} {b lt l1 : Addr} {due : Option (Str × Str)} {H5 H6 H7 : Hp} {w : Str × Str} (B5 : Bas H5 b) (x : ExtN H5 H6) (T6 : Tabs T H6) (s7 : Same H6 H7) (F : Fits due w) (g : H7 l1 = some (.lst [.str w.1, .str w.2])) (hl : H7 lt = none) :
    Ph T b lt due H5 (upd H7 lt (.lst [.ref l1])) [.ref l1] [w] := by
  have x7 := x.trans (ExtN.of s7)
  have B7 := B5.ext x7
  have sn : Same H7 (upd H7 lt (.lst [.ref l1])) := same_new hl
  refine ⟨B7.on sn, (T6.ext s7).ext sn, upd_same, .cons ⟨l1, rfl, hid2_of (ne_of_none g hl) (fun _ z => by cases z) (sn _ _ g)⟩ .nil, fun w' hw => ?_, B7.off hl, fun a o e n => ?_⟩
  · cases List.mem_singleton.mp hw; exact F
  · have e7 := x7 a o e n
    exact hid2_of (ne_of_none e7 hl) n (sn _ _ e7)
theorem Pairs.snoc {H : Hp} : ∀ {xs : List V} {ws : List (Str × Str)} {x : V} {w : Str × Str}, Pairs H xs ws → PairAt H x w → Pairs H (xs ++ [x]) (ws ++ [w])
  | _, _, _, _, .nil, h => .cons h .nil
  | _, _, _, _, .cons g t, h => .cons g (t.snoc h)
theorem Ph.next {T : List (Addr × Str)} {b lt l : Addr} {due : Option (Str × Str)} {H5 Hn H6 H7 : Hp} {xs : List V} {ws : List (Str × Str)} {w : Str × Str} (h : Ph T b lt due H5 Hn xs ws) (x : ExtN Hn H6) (T6 : Tabs T H6) (s7 : Same H6 H7) (F : Fits due w) (g : H7 l = some (.lst [.str w.1, .str w.2])) :
    Ph T b lt due H5 (upd H7 lt (.lst (xs ++ [.ref l]))) (xs ++ [.ref l]) (ws ++ [w]) := by
  have x7 := x.trans (ExtN.of s7)
  have hl : H7 lt = some (.lst xs) := x7 _ _ h.l fun _ z => by cases z
  have nl : l ≠ lt := fun z => by
    subst z
    rw [hl] at g
    have e : xs = [.str w.1, .str w.2] := by injection (Option.some.inj g)
    have hp := h.ps
    rw [e] at hp
    cases hp with
    | cons z _ => obtain ⟨p, e, _⟩ := z; cases e
  have bt : But lt H7 (upd H7 lt (.lst (xs ++ [.ref l]))) := fun a o n e => by rw [upd_ne n]; exact e
  have S : Same (hid2 lt Hn) (hid2 lt (upd H7 lt (.lst (xs ++ [.ref l])))) := (hid2_ext x7).trans (hid2_but bt)
  have B7 := h.B.ext x7
  refine ⟨?_, tabs_lst (T6.ext s7) hl bt, upd_same, (h.ps.mono S).snoc ⟨l, rfl, hid2_of nl (fun _ z => by cases z) (bt _ _ nl g)⟩, fun w' hw => ?_, h.nb, h.s.trans (ExtN.of S)⟩
  · obtain ⟨x, y, z, e⟩ := B7
    exact ⟨x, y, z, bt _ _ h.nb.symm e⟩
  · rcases List.mem_append.mp hw with z | z
    · exact h.fs _ z
    · cases List.mem_singleton.mp z; exact F
end Ts
namespace Ts
open PySem PySem.Spec PyProof.Rows L2 L2H LamX
theorem shaped_due {d : Str × Str} (h : PyData.strOk d.1 = true ∧ PyData.strOk d.2 = true) : SeqAt.shaped (pairW d) = true := by
  unfold SeqAt.shaped
  rw [lay_pair h]; rfl
end Ts
namespace Ts
open PySem PySem.Spec PyProof.Rows L2 L2H LamX
/-! ## own errors over any built-in base: the class -/
structure OexB (K : PySem.W.Frag) (C : Addr) : Prop where
  bas : ∃ (B newId initId : String) (bmB : List Value), ExcBaseFacts B newId initId bmB ∧ StoreFacts B bmB "object.__setattr__" "object" ∧ PySem.W.excInitIn K C bmB newId = true ∧ PySem.W.excOver K C bmB = true
  dct : PySem.W.hasDictIn K C = true
  sa : PySem.W.findIn K (.ref C) "__setattr__" = some (some (.builtin "object.__setattr__"))
  exC : PySem.W.subIn K (.ref C) (.type "BaseException") = some true
  tyC : PySem.W.typeIn K (.ref C) = some (.type "type")
  kC : PySem.W.keepIn K (.ref C) = true
section
open Builtin Builtin.ObjectAttr PySem.W PySem.HandSPX
variable {prog : Program} {w : World} {A : Around} {E : Value → Shared → Prop} {R : Result → Shared → Prop} {h9 : Heap} {g9 : Array GenState} {d9 : Drawn} {t9 : Nat} {os9 : OsState}
/-- the first field of an exception over any base -/
theorem osa_first {K : W.Frag} {B : String} {bmB : List Value} {fld : Str} {tk : Tok} {val : Value} {e9 C : Addr} {fv : Array Value} (SF : StoreFacts B bmB "object.__setattr__" "object") (X9 : K.In h9)
    (he : h9.get? e9 = some { cls := .ref C, data := .fields fv }) (ov : excOver K C bmB = true) (hh : hasDictIn K C = true) (no : findIn K (.ref C) fld = some none)
    (hq : ∀ k9 tk' x9, (∀ b o, b ≠ e9 → h9.get? b = some o → k9.get? b = some o) → h9.objs.size ≤ x9 → x9 ≠ e9 → k9.get? e9 = some { cls := .ref C, dict := some x9, data := .fields fv } →
      k9.Ns1 x9 (fun y => if y = fld then some val else none) → R (.ok (.ret .none)) ⟨k9, g9, d9, tk', os9⟩) :
    codeAny (model prog w) A (.call (.builtin "object.__setattr__") ⟨[.ref e9, .str fld tk, val], []⟩) R ⟨h9, g9, d9, t9, os9⟩ := by
  have I9 : InstAt h9 e9 { cls := .ref C, data := .fields fv } C none := ⟨he, rfl, rfl, trivial⟩
  have n9 : e9 ≠ h9.objs.size := Nat.ne_of_lt (Heap.lt_size he)
  refine osa_openX SF X9 I9 ov (show takerIn K C fld = some none by unfold takerIn; rw [no]; rfl) fun b => ?_
  show wpAny _ _ (storeInOwnDict (.ref e9) (.ref C) (.str fld tk) fld val b) _ _ _
  obtain ⟨cd9, hc, hd9⟩ := any_some hh
  have L9 : Looks (model prog w) h9 (classData C) cd9 := looks_clsIn X9 hc
  obtain ⟨a1, a2, a3, a4, a5, hd, a6, a7, a8, a10, a11⟩ := cd9
  (try dsimp only at hd9)
  subst hd9
  unfold storeInOwnDict ownDictForStores
  repeat (first | with_reducible refine PySem.HandSPX.store_in_new ?_ ?_ | with_reducible refine wpAny_loadPart_at he ?_ | with_reducible refine L9.at ?_ | wp_step)
  · exact ⟨_, #[], _, (Heap.get?_update_ne _ _ _ _ n9.symm).trans (Heap.get?_push_at rfl rfl), rfl, fun z hz => absurd hz (by simp), fun _ => rfl⟩
  · intro k9 tk' hn9 hs9
    have he1 : (h9.push { cls := .type "dict", data := .dict #[] }).get? e9 = some { cls := .ref C, data := .fields fv } := Heap.get?_push_of_some _ he
    refine hq k9 tk' h9.objs.size (fun b o hb ho => ?_) (Nat.le_refl _) n9.symm ?_ hn9
    · exact (hs9.2 b (Nat.ne_of_lt (Heap.lt_size ho))).trans ((Heap.get?_update_ne _ _ _ _ hb).trans (Heap.get?_push_of_some _ ho))
    · exact (hs9.2 e9 n9).trans (Heap.get?_update_self _ he1 rfl)
end
section
variable {X : Cx} {pins : List (Addr × Obj)} {σ : L2.St} {H : Hp} {s : Shared} {a C : Addr} {fld : Str} {y : V} {u : Value} {Q : Unit → Shared → Prop} {E : Value → Shared → Prop} {A : Around}
theorem ostB_new (T : OexB X.K C) (I : L2.Inv X pins σ H s) (ea : H a = some (exo a C none)) (no : PySem.W.findIn X.K (.ref C) fld = some none) (ry : RelV y u)
    (h : ∀ x9 s', H x9 = none → x9 ≠ a → L2.Inv X pins σ (upd (upd H x9 (exd x9 [(fld, y)])) a (exo a C (some x9))) s' → Q () s') : wpAny (model X.prog X.w) A (setAttr (.ref a) fld u) Q E s := by
  obtain ⟨B, newId, initId, bmB, FB, SF, _, ov⟩ := T.bas
  obtain ⟨t1, h1⟩ := exo_at I.hok ea
  obtain ⟨h9, g9, d9, t9, os9⟩ := s
  refine PySem.W.set_plain I.kIn (od := none) ⟨h1, rfl, rfl, trivial⟩ T.sa ?_
  refine osa_first SF I.kIn h1 ov T.dct no (fun k9 tk' x9 kp xn xne hx9 hn9 => ?_)
  have fr9 : H x9 = none := I.hok.fresh xn
  have old : ∀ {b : Addr} {o : Obj}, h9.get? b = some o → b ≠ x9 := fun q => Nat.ne_of_lt (Nat.lt_of_lt_of_le (Heap.lt_size q) xn)
  have off : ∀ {b : Addr}, H b = none → b ≠ a := fun n z => by rw [z, ea] at n; cases n
  have U9 : Un X.fs [] H (upd (upd H x9 (exd x9 [(fld, y)])) a (exo a C (some x9))) h9 k9 :=
    { keep := fun b o q n _ _ => kp b o (off n) q
      slot := fun b o q n _ _ => ⟨o.slots, kp b o (off n) q⟩
      free := fun b o q n _ => by rw [upd_ne (off n), upd_ne (old q)]; exact n
      there := fun b o q _ => by
        by_cases hb : b = a
        · exact ⟨_, hb ▸ hx9⟩
        · exact ⟨o, kp b o hb q⟩
      tups := fun b xs q => by rw [upd_ne (at_ne ea q exo_tup), upd_ne (ne_of_none q fr9)]; exact q
      frzs := fun b o v q => by rw [upd_ne (at_ne ea q exo_frz), upd_ne (ne_of_none q fr9)]; exact q
      tbls := fun b ps q => ⟨#[], by rw [upd_ne (at_ne ea q exo_tbl), upd_ne (ne_of_none q fr9), q]; simp⟩ }
  refine h x9 _ fr9 xne (I.un (t' := tk') U9 fun b o q => ?_)
  by_cases hb : b = a
  · subst hb
    rw [upd_same] at q; cases q
    exact exo_ok hx9
  rw [upd_ne hb] at q
  by_cases hd : b = x9
  · subst hd
    rw [upd_same] at q; cases q
    exact exd_ok hn9 (relO_put (fs := []) ry fun _ => trivial)
  rw [upd_ne hd] at q
  refine (I.hok b o q).stay (fun c v hc z => kp c v (hc.elim (fun e => e ▸ hb) fun e => at_ne ea e exo_own) z) (fun c hc => ?_) (fun c xs hc => ?_)
  · rw [upd_ne (at_ne ea hc exo_own), upd_ne (ne_of_none hc fr9)]; exact hc
  · rw [upd_ne (at_ne ea hc exo_tup), upd_ne (ne_of_none hc fr9)]; exact hc
end
/-- self.fld = e, the first field -/
def tOstB (K : PySem.W.Frag) (fld : Str) (to te : TE) : TS := fun D σ H => te σ H fun y H1 => to σ H1 fun x H2 => ∃ a C : Addr, x = .ref a ∧ OexB K C ∧ PySem.W.findIn K (.ref C) fld = some none ∧
  H2 a = some (exo a C none) ∧ ∀ dx, H2 dx = none → dx ≠ a → D.nx σ (upd (upd H2 dx (exd dx [(fld, y)])) a (exo a C (some dx)))
section
variable {X : Cx} {o e : Expr} {to te : TE} {fld : Str} {p p' pos : Pos}
theorem ps_ostB (ho : PE X o to) (he : PE X e te) (hs : swapsWith e (some (.Attribute o fld p')) pos.line X.env = pure false := by rfl) : PS X (.Assign [.Attribute o fld p'] e pos) (tOstB X.K fld to te) := by
  refine ⟨fun pins s σ H D I h => ?_⟩
  refine plainObj_wpAny_Assign_Attribute (thn (he.run pins s σ H _ I h) fun v s1 ⟨y, H1, I1, r1, q1⟩ => thn (ho.run pins s1 σ H1 _ I1 q1) fun u s2 ⟨x, H2, I2, r2, a, C, ex, T, no, ea, q⟩ => ?_) hs
  subst ex
  cases (show u = Value.ref a from r2)
  exact ostB_new T I2 ea no r1 fun dx s' n ne J => ⟨σ, _, J, q dx n ne⟩
end
/-- C(e, ..), C an own error over any base, its own __init__ keeping sp -/
theorem pmk_oexB {X : Cx} {e : Expr} {es : List Expr} {ta : TA} {p pos : Pos} {CX : CXT} {x : Str} {C fI : Addr} {k : Nat} {fd : FuncData} {ps : List Str} {sp : Sp} (T : OexB X.K C) (iC : PySem.W.findIn X.K (.ref C) "__init__" = some (some (.ref fI))) (tI : PySem.W.typeIn X.K (.ref fI) = some (.type "function"))
    (F1 : FnOk X.prog X.w X.K X.mg X.base CX k fI fd ps sp) (hr : Room (k + 1) X.A) (hb : L2.Binds X.K fd ps []) (hx : Passes CX X (fun _ _ _ => False)) (hg : Gl X x) (hm : X.mg x = some (.ref C)) (ha : PA X (e :: es) ta)
    (hdb : (x == ("__debug__" : Str)) = false := by decide) (hse : starEach (e :: es) X.env = (false, eval e X.env) :: starEach es X.env := by rfl) (hnp : (backTo pos (starEach es X.env)).any (·.1) = false := by rfl) :
    PMk X (.Call (.Name x p) (e :: es) [] pos) (tMkO C sp [] ta) := by
  intro pins s σ H Q I h
  obtain ⟨B, newId, initId, bmB, FB, SF, ini, _⟩ := T.bas
  refine wpAny_Call_Name_kw (ld_glob I hg hm ?_ hdb)
  refine PySem.W.callWith_K (h₀ := X.base) I.ok.mod.kin T.kC (thn (ha.run pos pins s σ H _ I h) fun us s1 ⟨vs, H1, I1, r1, hz, q1⟩ => ⟨I1.kIn, ?_⟩) hse hnp
  show wpAny _ _ (call (.ref C) us) _ _ _
  obtain ⟨nm, N, qn, bs, bm, hdct, sn, sub, ab, col, dd, k0, k1, k2, k3, k5, hC, hT⟩ := PySem.W.excInit_of I1.kIn ini
  obtain ⟨h9, g9, d9, t9, os9⟩ := s1
  have grow : h9.objs.size ≤ h9.objs.size + 1 := Nat.le_succ _
  have hq := q1 (h9.objs.size + 1) (I1.hok.fresh grow)
  have keep9 : ∀ b o, h9.get? b = some o → ((h9.push (PySem.W.kdv_tup us)).push (PySem.HandSPX.excO C h9.objs.size)).get? b = some o := fun _ _ z => Heap.get?_push_of_some _ (Heap.get?_push_of_some _ z)
  have at9 : ((h9.push (PySem.W.kdv_tup us)).push (PySem.HandSPX.excO C h9.objs.size)).get? (h9.objs.size + 1) = some (PySem.HandSPX.excO C h9.objs.size) := by heap_get
  have I2 : L2.Inv X pins σ (upd H1 (h9.objs.size + 1) (exo (h9.objs.size + 1) C none)) ⟨(h9.push (PySem.W.kdv_tup us)).push (PySem.HandSPX.excO C h9.objs.size), g9, d9, t9, os9⟩ :=
    I1.laid (t' := t9) (a := h9.objs.size + 1) (o := exo (h9.objs.size + 1) C none) (h' := (h9.push (PySem.W.kdv_tup us)).push (PySem.HandSPX.excO C h9.objs.size)) keep9 grow (exo_ok at9)
  have r2 : Vals (V.ref (h9.objs.size + 1) :: (vs ++ [])) (Value.ref (h9.objs.size + 1) :: (us ++ [])) := .cons rfl (r1.append .nil)
  have ln9 : (Value.ref (h9.objs.size + 1) :: us ++ []).length = ps.length := (r2.length.symm.trans (F1.len _ _ _ _ hq))
  have few9 : us.length ≤ sizeLine := by rw [← Paired.length r1, sizeLine_eq]; omega
  have bd9 := hb ⟨(h9.push (PySem.W.kdv_tup us)).push (PySem.HandSPX.excO C h9.objs.size), g9, d9, t9, os9⟩ (Value.ref (h9.objs.size + 1) :: us) I2.kIn ln9
  rw [List.cons_append] at bd9
  refine wpAny_call (PySem.HandSPX.call_own FB hT hC (PySem.W.looks_findIn I1.kIn iC) (fun self => PySem.W.bind_fn I1.kIn self tI) few9
    (codeAny_mono (F1.run _ X.stack _ _ ⟨Value.ref (h9.objs.size + 1) :: us, []⟩ (Value.ref (h9.objs.size + 1) :: (us ++ [])) _ _ (fun _ _ _ => False) (hr.make C us []) (I2.env0.make C us []) bd9 r2 hq) fun r s' z => ?_))
  cases r with
  | error er => exact hx pins σ _ _ er s' I2 z
  | ok fl =>
    cases fl with
    | ret u =>
      obtain ⟨v, H2, o2, b2, un2, hok2, rv, ev, d, fs, ea, ed, hd1, q2⟩ := z
      subst ev
      obtain ⟨k9, g8, d8, t8, os8⟩ := s'
      exact ⟨rv, mk_end (raises_own T.exC T.tyC) I1 grow keep9 un2 hok2 o2 b2 ea ed hd1 q2⟩
    | next => exact z.elim
    | brk => exact z.elim
    | cont => exact z.elim
/-! ## own errors of one field, over any base -/
structure ErrB (P : Program) (w : World) (K : PySem.W.Frag) (mg : Str → Option Value) (base : Heap) (x : Str) (C : Addr) (fld : Str) : Prop where
  oex : OexB K C
  no : PySem.W.findIn K (.ref C) fld = some none
  gl : mg x = some (.ref C)
  ini : ∃ fI fd, PySem.W.findIn K (.ref C) "__init__" = some (some (.ref fI)) ∧ PySem.W.typeIn K (.ref fI) = some (.type "function") ∧ FnOk P w K mg base CX0 1 fI fd ["self", fld] (spErr C fld) ∧ L2.Binds K fd ["self", fld] []
theorem errB_init {P : Program} {w : World} {K : PySem.W.Frag} {mg : Str → Option Value} {base : Heap} {qual fld : Str} {st : Stmt} {f C : Addr} {fd : FuncData} (F : Fun K "__init__" qual st f fd) (S : FnScope ["self", fld] ["self", fld] (defScope st)) (T : OexB K C) (no : PySem.W.findIn K (.ref C) fld = some none)
    (hb : ∀ (cdv : Value) (A : Around) (outer : List Env) (s : Shared) (H : Hp) (E : XK), PSs (cxOf CX0 P w K mg base ["self", fld] qual (defScope st) f cdv A outer s H E).nox (defBody st) (tOstB K fld (tVar 0) (tVar 1))) : FnOk P w K mg base CX0 1 f fd ["self", fld] (spErr C fld) := by
  refine F.ok S (fun vs H Q E h => ?_) (fun cdv A outer s H vs Q E hr h => ?_)
  · obtain ⟨a, v, rfl, _⟩ := h; rfl
  obtain ⟨a, v, rfl, ha, q⟩ := h
  exact ⟨_, hb cdv A outer s H E, _, rfl, _, rfl, a, C, rfl, T, no, ha, fun dx h1 h2 => q dx h1 h2⟩
theorem pmk_errB {X : Cx} {x fld : Str} {C : Addr} {e : Expr} {te : TE} {p pos : Pos} (T : ErrB X.prog X.w X.K X.mg X.base x C fld) (hr : Room 2 X.A) (he : PE X e te) (hg : Gl X x := by rfl) (hdb : (x == ("__debug__" : Str)) = false := by decide)
    (hse : starEach [e] X.env = (false, eval e X.env) :: starEach [] X.env := by rfl) (hpl : (backTo pos (starEach [] X.env)).any (·.1) = false := by rfl) : PMk X (.Call (.Name x p) [e] [] pos) (tMkO C (spErr C fld) [] (tCons te tNil)) := by
  obtain ⟨fI, fd, h1, h2, h3, h4⟩ := T.ini
  exact pmk_oexB (X := X) (p := p) (pos := pos) T.oex h1 h2 h3 hr h4 (fun _ _ _ _ _ _ _ (z : False) => z.elim) hg T.gl (pa_cons he pa_nil hse) hdb hse hpl
end Ts
namespace Ts
open PySem PySem.Spec PyProof.Rows L2 L2H LamX
/-! ## what repr says, of any kind of value that a law hands in -/
abbrev ShR := Hp → V → Str → Prop
structure ReprR (P : Program) (w : World) (K : PySem.W.Frag) (mg : Str → Option Value) (base : Heap) (hot : Bool) (R : ShR) : Prop where
  mono : ∀ {H H' : Hp} {v : V} {t : Str}, R H v t → Same H H' → R H' v t
  rule : ∀ X : Cx, X.prog = P → X.w = w → X.K = K → X.mg = mg → X.base = base → X.A.guards = some [] → RoomH 4 X.A → (hot = false → Room 4 X.A) → (hot = true → ∃ p, p ∈ X.pn) → CallR X (.builtin "repr") (fun xs H Q => ∃ v t, xs = [v] ∧ R H v t ∧ Q (.str t) H)
/-- data without dicts, or an empty dict -/
inductive ShW (K : PySem.W.Frag) (H : Hp) : V → Str → Prop
  | data {v : V} {d : PyData} : Dp K H v d → d.showable = true → d.hasDict = false → d.depth < 60 → d.shown.length ≤ sizeLine → ShW K H v d.shown
  | emp {a : Addr} : H a = some (.dK []) → ShW K H (.ref a) "{}"
theorem ShW.mono {K : PySem.W.Frag} {H H' : Hp} {v : V} {t : Str} (h : ShW K H v t) (s : Same H H') : ShW K H' v t := by
  cases h with
  | data a b c d e => exact .data (a.mono s) b c d e
  | emp a => exact .emp (s _ _ a)
theorem call_reprW {X : Cx} (hg : X.A.guards = some []) (hu : X.A.units + 100 < cLine) : CallR X (.builtin "repr") (fun xs H Q => ∃ v t, xs = [v] ∧ ShW X.K H v t ∧ Q (.str t) H) := by
  intro pins s σ H xs us Q I r h
  obtain ⟨v, t, rfl, hs, q⟩ := h
  cases hs with
  | data a b c d e => exact call_reprV hg hu pins s σ H _ us Q I r ⟨v, _, rfl, a, b, c, d, e, q⟩
  | @emp a e =>
    obtain ⟨u, rfl, ru⟩ := vals1 r
    obtain rfl : u = Value.ref a := ru
    obtain ⟨_, hy, vs, kv, o, es, ep, ho, hx, hd, hk, hp, hn⟩ := I.hok a _ e
    cases kv
    have he : es.toList = [] := by
      generalize es.toList = l at hp
      cases hp; rfl
    have hc : o.cls = .type "dict" := hx.1
    have rd : Reads s.heap (.ref a) (.dict []) (a :: [] ++ []) := .dict ho hc hd (by rw [he]; exact .nil) (by rw [he]; exact .nil)
    refine repr_of_reads' rd (by decide) (fun _ hm => ?_) hg (by have : PyData.depth (.dict []) ≤ 1 := by decide
                                                                 omega) (fun _ _ z => z) (fun h' u tk hk' => ⟨.str _, H, I.kept hk', ⟨u, rfl⟩, q⟩) (by decide +kernel)
    have e2 := List.mem_singleton.mp hm
    rw [← e2] at hy
    simp at hy
/-! ## a call that is heard, anew: repr by ShE of what an error keeps, by ShO of what comes back; errors without a field, too -/
def HeardE2 (K : PySem.W.Frag) (c : Cls11) (b : Bas3) (ShE : ShR) (Q : VK) : XK := fun cls d H' => ∃ (C : Addr) (i : Nat) (t sh : Str), cls = .ref C ∧ ExcK K C ∧ IsErr K c b C i ∧ errWords[i]? = some t ∧ PySem.W.exmAny K (.ref C) [.ref b.v, .ref b.w, .ref b.x] = some true ∧
      ((∃ (dd : Addr) (v : V), d = some dd ∧ H' dd = some (.xd [(fieldOf i, v)]) ∧ i ≠ 10 ∧ PySem.W.findIn K (.ref C) (fieldOf i) = some none ∧ ShE H' v sh) ∨ (d = none ∧ i = 10 ∧ sh = "")) ∧ ∀ (l : Addr) (H2 : Hp), Same H' H2 → H2 l = some (.lst [.str t, .str sh]) → Q (.ref l) H2
def HeardQ2 (ShO : ShR) (Q : VK) : VK := fun v H' => ∃ sh, ShO H' v sh ∧ ∀ (l : Addr) (H2 : Hp), Same H' H2 → H2 l = some (.lst [.str "back", .str sh]) → Q (.ref l) H2
def TTheard2 (K : PySem.W.Frag) (c : Cls11) (b : Bas3) (ShE ShO : ShR) (tl : XK → Hp → VK → Prop) (H : Hp) (Q : VK) : Prop :=
  ∃ (E' : XK) (Q' : VK), tl E' H Q' ∧ (∀ cls d H', E' cls d H' → HeardE2 K c b ShE Q cls d H') ∧ ∀ v H', Q' v H' → HeardQ2 ShO Q v H'
theorem raise_heard2 {P : Program} {w : World} {K : PySem.W.Frag} {mg : Str → Option Value} {base : Heap} {hot : Bool} {ShE : ShR} (R : ReprR P w K mg base hot ShE) {c : Cls11} {b : Bas3} {C : Addr} {i : Nat} {t fld sh : Str} {H : Hp} {v : V} {Q : VK} (h : ErrI K c b C i t) (hf : fieldOf i = fld) (hs : ShE H v sh)
    (q : ∀ (l : Addr) (H2 : Hp), Same H H2 → H2 l = some (.lst [.str t, .str sh]) → Q (.ref l) H2) : Raise1 C fld v H (HeardE2 K c b ShE Q) := by
  subst hf
  intro H' d s hd
  refine ⟨C, i, t, sh, rfl, h.ex, h.is, h.wd, h.an, .inl ⟨d, v, rfl, upd_same, h.ne, h.no, R.mono hs (s.trans (same_new hd))⟩, fun l H2 s2 e => q l H2 (s.trans ((same_new hd).trans s2)) e⟩
/-! ## methods that raise -/
end Ts
namespace Ts
open PySem PySem.Spec PyProof.Rows L2 L2H LamX
/-! ## repr of (x,) and [x], x of an own class with its own __repr__ -/
section
open PySem.W Builtin Builtin.List
variable {prog : Program} {w : World} {A : Around} {E : Value → Shared → Prop} {s : Shared} {K : PySem.W.Frag} {x C f : Addr} {ox : Obj} {od : Option Obj}
theorem under_own {b : Nat} {Q : Str → Shared → Prop} (hb : b ≤ sizeLine) (hu : A.units < cLine) (X : K.In s.heap) (I : InstAt s.heap x ox C od) (hs : findIn K (.ref C) "__repr__" = some (some (.ref f))) (hf : isFn K (.ref f) = true)
    (h : wpAny (model prog w) A (call (.ref f) [.ref x]) (fun v s' => ∃ t u, v = .str t u ∧ Q t s') E s) : wpAny (model prog w) A (pyReprUnder b (.ref x)) Q E s := by
  refine wpAny_pyReprUnder_ref hb ?_
  unfold pyReprObjUnder pyReprObjBy
  refine wpAny_bind (wpAny_cRoomFor hu ?_)
  refine wpAny_bind (wpAny_bind (I.type.here ((looks_findIn X hs).here ?_)))
  show wpAny _ _ (if (some (Value.ref f)).isNone = true then _ else _) _ _ _
  rw [if_neg (by simp)]
  refine wpAny_bind (m := callSpecialIfBoundBy? _ _ _) ?_
  simp only [callSpecialIfBoundBy?, bindSpecialIfBound?]
  refine wpAny_holding (wpAny_bind (wpAny_bind (wpAny_bind (I.type.here ((looks_findIn X hs).here ?_)))))
  refine wpAny_bind (wpAny_askSetting (wpAny_ite ?_))
  have call9 : ∀ {Q9 : Option Value → Shared → Prop}, (∀ t u s', Q t s' → Q9 (some (.str t u)) s') → wpAny (model prog w) A (call (.ref f) ([.ref x] ++ []) >>= fun v => pure (some v)) Q9 E s := fun hq => wpAny_bind (wpAny_mono h (fun v s' ⟨t, u, e, q⟩ => wpAny_pure (by subst e; exact hq t u s' q)) fun _ _ z => z)
  have back9 : ∀ (t : Str) (u : Tok) (s' : Shared), Q t s' → wpAny (model prog w) A (do if ← isInstance (Value.str t u) (.type "str") then pure (Value.str t u) else raiseError "TypeError" s!"__repr__ returned non-string (type {← typeNameOf (Value.str t u)})") (fun v s' => ∃ x u, v = Value.str x u ∧ Q x s') E s' := fun t u s' q => by
    refine wpAny_bind (wpAny_isInstance (T := "str") (b := true) (typeIs_str _ _ _) isSubtype_str_str ?_)
    first
      | exact wpAny_pure ⟨_, _, rfl, q⟩
      | (rw [if_pos rfl]; exact wpAny_pure ⟨_, _, rfl, q⟩)
  split
  · refine wpAny_bind ((bind_fn X _ (beq_iff_eq.mp hf)).here (wpAny_pure ?_))
    exact call9 back9
  · refine wpAny_tryCatch (wpAny_bind ((bind_fn X _ (beq_iff_eq.mp hf)).here (wpAny_pure ?_)))
    exact call9 back9
/-- repr((x,)) -/
theorem repr_tup1 {a : Addr} {o : Obj} {n : Nat} {Q : Value → Shared → Prop} (ha : s.heap.get? a = some o) (hc : o.cls = .type "tuple") (hd : o.data = .seq #[.ref x] n) (hg : A.guards = some []) (hu : A.units + 8 < cLine)
    (hx : wpAny (model prog w) (A.in1.under (.builtin "tuple.__repr__" ⟨[.ref a], []⟩)) (pyReprUnder 1 (.ref x)) (fun t s' => (tupleText [t]).length ≤ sizeLine ∧ Q (.str (tupleText [t]) s'.toks) { s' with toks := s'.toks + 1 }) E s) :
    wpAny (model prog w) A (call (.builtin "repr") [.ref a]) Q E s := by
  refine call_repr_slot (by omega) (show s.TypeIs (.ref a) "tuple" from ⟨o, ha, hc⟩) PySem.F.slot_tuple_repr ?_
  refine wpAny_call (codeAny_call_builtin_own (Code.quiet_builtin _ (by decide +kernel)) PySem.F.entry_tuple_repr (PySem.F.slot_tuple_repr.check _ _ _ _ _ _ _ _ ⟨o, ha, hc⟩ (PySem.F.args_tuple_repr_1 _) ?_))
  show wpOwn _ _ _ (Builtin.tupleReprAt 0 ⟨[.ref a], []⟩) _ _ _
  rw [tuple_repr_tree, tupleReprUnderWay_eq]
  refine wpOwn_bind (wpOwn_stackTailAny (show A.in1.guards = some [] from hg) (tupGuardF_off _) (tupGuardF_pos _) ?_)
  refine wpOwn_of_wpAny ?_
  show wpAny _ _ (tupleReprRest 0 (.ref a)) _ _ s
  unfold tupleReprRest Builtin.Tuple.tupleItemsOf
  refine wpAny_bind (wpAny_bind (wpAny_seqItems ha hd (wpAny_pure ?_)))
  rw [← Array.forIn_toList]
  show wpAny _ _ (do
    let r ← forIn [Value.ref x] (⟨#[], 0⟩ : (Array Str × Nat)) tupBody
    retStr (("(" : Str) ++ Str.join ", " r.1.toList ++ (if (#[Value.ref x] : Array Value).size == 1 then ",)" else ")" : String))) _ _ s
  rw [List.forIn_cons]
  refine wpAny_bind (wpAny_bind (wpAny_bind (wpAny_mono hx (fun t s' hq => ?_) (fun _ _ z => z))))
  obtain ⟨hz, hq⟩ := hq
  refine wpAny_pure ?_
  show wpAny _ _ (forIn ([] : List Value) (⟨(#[] : Array Str).push t, 0 + (t.length + 2)⟩ : (Array Str × Nat)) tupBody) _ _ s'
  rw [List.forIn_nil]
  refine wpAny_pure ?_
  refine wpAny_bind (wpAny_mkStr (wpAny_pure ?_) (by simpa [tupleText] using hz))
  exact ⟨_, _, rfl, by simpa [tupleText] using hq⟩
/-- repr([x]) -/
theorem repr_lst1 {a : Addr} {o : Obj} {n : Nat} {Q : Value → Shared → Prop} (ha : s.heap.get? a = some o) (hc : o.cls = .type "list") (hd : o.data = .seq #[.ref x] n) (hg : A.guards = some []) (hu : A.units + 8 < cLine)
    (hx : ∀ (P : Addr) (h' : Heap) (tk : Nat), P = s.heap.objs.size → s.heap.get? P = none → (∀ b o, s.heap.get? b = some o → h'.get? b = some o) → h'.get? P = some { cls := .type "list", dict := none, data := .seq #[] 0, slots := #[] } →
      wpAny (model prog w) (A.in1.under (.builtin "list.__repr__.loop" ⟨[.ref a, rawInt 0, .ref P, rawInt 0], []⟩)) (pyReprUnder 1 (.ref x)) (fun t s' => (listText [t]).length ≤ sizeLine ∧ (∃ o' n', s'.heap.get? a = some o' ∧ o'.data = .seq #[.ref x] n') ∧ s'.heap.get? P = some { cls := .type "list", dict := none, data := .seq #[] 0, slots := #[] } ∧
        ∀ (k' : Heap) (u : Tok) (tk' : Nat), (∀ b o, b ≠ P → s'.heap.get? b = some o → k'.get? b = some o) → Q (.str (listText [t]) u) { s' with heap := k', toks := tk' }) E { s with heap := h', toks := tk }) :
    wpAny (model prog w) A (call (.builtin "repr") [.ref a]) Q E s := by
  refine call_repr_slot (by omega) (show s.TypeIs (.ref a) "list" from ⟨o, ha, hc⟩) PySem.F.slot_list_repr.toG ?_
  refine wpAny_call (codeAny_call_builtin PySem.F.slot_list_repr.plain PySem.F.entry_list_repr (PySem.F.slot_list_repr.check _ _ _ _ _ _ _ _ ⟨o, ha, hc⟩ (PySem.F.args_list_repr_1 _) ?_))
  show wpAny _ _ (Builtin.listReprAt 0 ⟨[.ref a], []⟩) _ _ _
  refine wpAny_list_repr_head (l := []) (show A.in1.in1.guards = some [] from hg) (fun v rest kw hm => by cases hm) ha hd ?_
  refine wpAny_bind (m := newList []) (wpAny_newObj_type ?_)
  refine wpAny_pure ⟨PySem.F.quiet_list_repr_loop _, ?_⟩
  refine codeAny_builtin PySem.F.entry_list_repr_loop ?_
  show wpAny _ _ («list.__repr__.loop» ⟨[.ref a, .int ((0 : Nat) : Int) 0, .ref s.heap.objs.size, .int ((0 : Nat) : Int) 0], []⟩) _ _ _
  rw [repr_loop_tree]
  have kp : ∀ b o, s.heap.get? b = some o → (s.heap.push { cls := Value.type "list", data := Data.seq #[] 0 }).get? b = some o := fun b o e => Heap.get?_push_of_some _ e
  refine wpAny_bind (wpAny_listItems (kp _ _ ha) hd ?_)
  show wpAny _ _ (do
      let y ← holding [Value.ref x] (pyReprUnder 1 (.ref x))
      let r ← mkStr y
      listUpdate (.ref s.heap.objs.size) (·.push r)
      again (.builtin "list.__repr__.loop" ⟨[.ref a, rawInt (((0 : Nat) : Int) + 1), .ref s.heap.objs.size, rawInt ((0 + (y.length + 2) : Nat) : Int)], []⟩)) _ _ _
  have fresh : s.heap.get? s.heap.objs.size = none := by
    cases e : s.heap.get? s.heap.objs.size with
    | none => rfl
    | some o => exact absurd (Heap.lt_size e) (Nat.lt_irrefl _)
  refine wpAny_bind (wpAny_holding (wpAny_mono (hx s.heap.objs.size _ s.toks rfl fresh kp (Heap.get?_push_size _ rfl)) (fun t s' hq => ?_) fun _ _ z => z))
  obtain ⟨hz, ⟨o', n', ha', hd'⟩, hP, hq⟩ := hq
  have nP : a ≠ s.heap.objs.size := Nat.ne_of_lt (Heap.lt_size ha)
  refine wpAny_bind (wpAny_mkStr ?_ (Nat.le_trans (listText_mem_le (List.mem_singleton.mpr rfl)) hz))
  refine wpAny_bind ?_
  show wpAny _ _ (updateSeq s.heap.objs.size _) _ _ _
  refine wpAny_updateSeq hP rfl (wpAny_pure ⟨PySem.F.quiet_list_repr_loop _, ?_⟩) (by decide)
  refine codeAny_builtin PySem.F.entry_list_repr_loop ?_
  show wpAny _ _ («list.__repr__.loop» ⟨[.ref a, .int (((0 : Nat) : Int) + 1) 0, .ref s.heap.objs.size, .int ((0 + (t.length + 2) : Nat) : Int) 0], []⟩) _ _ _
  rw [repr_loop_tree]
  refine wpAny_bind (wpAny_listItems ((Heap.get?_update_other _ _ (fun h : s.heap.objs.size = a => nP h.symm)).trans ha') hd' ?_)
  show wpAny _ _ (reprEnd (.ref s.heap.objs.size)) _ _ _
  unfold reprEnd
  refine wpAny_bind (wpAny_listItems (Heap.get?_update_self _ hP rfl) rfl ?_)
  show wpAny _ _ (do
    let text ← forIn ((strValues [(t, s'.toks)]).zipIdx 0) ("[" : Str) reprBody
    retStr (text ++ "]")) _ _ _
  rw [repr_fold]
  refine wpAny_bind (wpAny_pure ?_)
  refine wpAny_bind (wpAny_mkStr (wpAny_pure ?_) hz)
  exact ⟨_, _, rfl, hq _ _ _ fun b o hb e => (Heap.get?_update_other _ _ (fun h : s.heap.objs.size = b => hb h.symm)).trans e⟩
end
end Ts
namespace Ts
open PySem PySem.Spec PyProof.Rows L2 L2H LamX
/-! ## repr of own objects, alone or in a tuple or list of one -/
abbrev CR0 (X : Cx) (H : Hp) (s : Shared) (t : Str) : Result → Shared → Prop := CR CX0 X.stack X.prog X.w H s (fun v H' => v = .str t ∧ H' = H) E0
/-- the class's own __repr__ runs here, also some steps deeper -/
structure ReprOwn (X : Cx) (C : Addr) (R : Addr → Hp → Str → Prop) : Prop where
  ex : ∃ f : Addr, PySem.W.findIn X.K (.ref C) "__repr__" = some (some (.ref f)) ∧ PySem.W.isFn X.K (.ref f) = true ∧
    ∀ (A : Around) (pins : List (Addr × Obj)) (σ : L2.St) (H : Hp) (s : Shared) (a : Addr) (t : Str), A.frames = X.A.frames → A.handled = X.A.handled → A.depth ≤ X.A.depth + 4 → A.units ≤ X.A.units + 8 → L2.Inv X pins σ H s → R a H t →
      codeAny (model X.prog X.w) A (.call (.ref f) ⟨[.ref a], []⟩) (CR0 X H s t) s
  ins : ∀ {a : Addr} {H : Hp} {t : Str}, R a H t → ∃ dx fs, H a = some (.ins C dx fs)
def LotR (K : PySem.W.Frag) (C : Addr) : Addr → Hp → Str → Prop := fun a H t => ∃ (n : Nat) (js : List Job), LotAt K C H a n js ∧ n ≤ 1000 ∧ js.length ≤ 20 ∧ t = reprS js.length n
theorem LotR.ins {K : PySem.W.Frag} {C a : Addr} {H : Hp} {t : Str} (h : LotR K C a H t) : ∃ dx fs, H a = some (.ins C dx fs) := by
  obtain ⟨n, js, L, _⟩ := h
  obtain ⟨dx, pn, ps, pt, ha, _⟩ := L.ex
  exact ⟨dx, _, ha⟩
theorem env0_in {X : Cx} {pins : List (Addr × Obj)} {σ : L2.St} {H : Hp} {s : Shared} {A : Around} (I : L2.Inv X pins σ H s) (hf : A.frames = X.A.frames) : Env0 X.prog X.w X.K X.mg X.base A X.stack s H := by
  have e := I.env0
  exact ⟨hf.trans e.frames, e.mod, e.bs, e.bsz, e.funs, e.frf, e.hok, e.bare⟩
theorem own_cold {X : Cx} {C : Addr} {k : Nat} (h : HasS X.prog X.w X.K X.mg X.base k C "__repr__" ["self"] (spRepr X.K C)) (hr : Room (k + 2) X.A) : ReprOwn X C (LotR X.K C) := by
  obtain ⟨f, fd, hs, hf, F, hb⟩ := h.ex
  refine ⟨⟨f, hs, hf, fun A pins σ H s a t h1 h2 h3 h4 I ⟨n, js, L, l1, l2, e⟩ => ?_⟩, fun h => h.ins⟩
  subst e
  have hrA : Room k A := ⟨h2.trans hr.hd, by have := hr.dp; omega, by have := hr.un; omega⟩
  have hbd := hb s [.ref a] I.kIn rfl
  rw [List.append_nil] at hbd
  exact F.run A X.stack s H ⟨[.ref a], []⟩ [.ref a] [.ref a] _ _ hrA (env0_in I h1) hbd (.cons rfl .nil) ⟨a, n, js, rfl, L, l1, l2, rfl, rfl⟩
/-- .. where an error is handled -/
structure HasSP (P : Program) (w : World) (K : PySem.W.Frag) (mg : Str → Option Value) (base : Heap) (k : Nat) (C : Addr) (m : Str) (ps : List Str) (sp : Sp) : Prop where
  ex : ∃ f fd, PySem.W.findIn K (.ref C) m = some (some (.ref f)) ∧ PySem.W.isFn K (.ref f) = true ∧ FnP P w K mg base k f fd ps (fun _ => sp) ∧ Binds K fd ps []
theorem own_hot {X : Cx} {C : Addr} {k : Nat} {p : Addr × Obj} (h : HasSP X.prog X.w X.K X.mg X.base k C "__repr__" ["self"] (spRepr X.K C)) (hp : p ∈ X.pn) (hr : RoomH (k + 2) X.A) : ReprOwn X C (LotR X.K C) := by
  obtain ⟨f, fd, hs, hf, F, hb⟩ := h.ex
  refine ⟨⟨f, hs, hf, fun A pins σ H s a t h1 h2 h3 h4 I ⟨n, js, L, l1, l2, e⟩ => ?_⟩, fun h => h.ins⟩
  subst e
  have hrA : RoomH k A := ⟨by have := hr.dp; omega, by have := hr.un; omega⟩
  have hbd := hb s [.ref a] I.kIn rfl
  rw [List.append_nil] at hbd
  have P1 := I.pin p (List.mem_append_left pins hp)
  have hpin : PinOk X.stack H s p := ⟨P1.1, P1.2.1, fun hm => Or.elim (List.mem_cons.mp (Inv.stkSub I p.1 hm)) P1.2.2.1 P1.2.2.2.1, P1.2.2.2.2⟩
  exact F.go A X.stack s H [.ref a] [.ref a] _ p hrA hpin (env0_in I h1) hbd (.cons rfl .nil) ⟨a, n, js, rfl, L, l1, l2, rfl, rfl⟩
section
variable {X : Cx} {C : Addr} {R : Addr → Hp → Str → Prop}
theorem repr_here (h : ReprOwn X C R) (hu : X.A.units + 8 < cLine) : CallR X (.builtin "repr") (fun xs H Q => ∃ (a : Addr) (t : Str), xs = [.ref a] ∧ R a H t ∧ Q (.str t) H) := by
  obtain ⟨f, hs, hf, run⟩ := h.ex
  intro pins s σ H xs us Q I r q
  obtain ⟨a, t, rfl, ha, q⟩ := q
  obtain ⟨u, rfl, ru⟩ := vals1 r
  obtain rfl : u = Value.ref a := ru
  obtain ⟨dx, fs, ea⟩ := h.ins ha
  obtain ⟨mA, O, _⟩ := ins_get I.hok ea
  obtain ⟨od, J, _⟩ := O.look
  obtain ⟨m, hF⟩ := I.fr
  refine PySem.W.repr_K (by show X.A.units + 1 < _; omega) hF I.ok.mod.kin J hs hf (wpAny_call (codeAny_mono (run X.A.in1 pins σ H s a t rfl rfl (by show X.A.depth ≤ _; omega) (by show X.A.units + 1 ≤ _; omega) I ha) fun z s' hq => ?_))
  cases z with
  | error er => exact hq.elim
  | ok fl => cases fl with
    | ret u =>
      obtain ⟨v, H', I', rv, ev, eH⟩ := I.after hq
      subst ev eH
      obtain ⟨tk, rfl⟩ := rv
      exact ⟨.str t, H', I', ⟨tk, rfl⟩, q⟩
    | next => exact hq.elim
    | brk => exact hq.elim
    | cont => exact hq.elim
theorem under_tup {A : Around} {args : Args} : (A.in1.under (.builtin "tuple.__repr__" args)).frames = A.frames ∧ (A.in1.under (.builtin "tuple.__repr__" args)).handled = A.handled ∧ (A.in1.under (.builtin "tuple.__repr__" args)).depth ≤ A.depth + 1 ∧ (A.in1.under (.builtin "tuple.__repr__" args)).units ≤ A.units + 4 := by
  refine ⟨?_, ?_, ?_, ?_⟩
  · simp [Around.under, Code.envs, Code.isFrame, pushEnvs]
  · simp [Around.under]
  · simp [Around.under, Code.weight, Code.isCreation, Code.isGuard, Code.isCaller, Code.frames, Code.isFrame, guardIds]
  · simp [Around.under, Code.cUnits, Code.frames, Code.isFrame]
theorem under_lst {A : Around} {args : Args} : (A.in1.under (.builtin "list.__repr__.loop" args)).frames = A.frames ∧ (A.in1.under (.builtin "list.__repr__.loop" args)).handled = A.handled ∧ (A.in1.under (.builtin "list.__repr__.loop" args)).depth ≤ A.depth + 1 ∧ (A.in1.under (.builtin "list.__repr__.loop" args)).units ≤ A.units + 4 := by
  refine ⟨?_, ?_, ?_, ?_⟩
  · simp [Around.under, Code.envs, Code.isFrame, pushEnvs]
  · simp [Around.under]
  · simp [Around.under, Code.weight, Code.isCreation, Code.isGuard, Code.isCaller, Code.frames, Code.isFrame, guardIds]
  · simp [Around.under, Code.cUnits, Code.frames, Code.isFrame]
theorem repr_in_tup (h : ReprOwn X C R) (hg : X.A.guards = some []) (hu : X.A.units + 16 < cLine) : CallR X (.builtin "repr") (fun xs H Q => ∃ (p a : Addr) (t : Str), xs = [.ref p] ∧ H p = some (.tup [.ref a]) ∧ R a H t ∧ (tupleText [t]).length ≤ sizeLine ∧ Q (.str (tupleText [t])) H) := by
  obtain ⟨f, hs, hf, run⟩ := h.ex
  intro pins s σ H xs us Q I r q
  obtain ⟨p, a, t, rfl, hp, ha, hz, q⟩ := q
  obtain ⟨u, rfl, ru⟩ := vals1 r
  obtain rfl : u = Value.ref p := ru
  obtain ⟨dx, fs, ea⟩ := h.ins ha
  obtain ⟨mA, O, _⟩ := ins_get I.hok ea
  obtain ⟨od, J, _⟩ := O.look
  obtain ⟨_, its, rI, o, ho, hc, n, hd⟩ := I.hok p _ hp
  obtain ⟨v, rfl, rv⟩ := vals1 rI
  obtain rfl : v = Value.ref a := rv
  obtain ⟨f1, f2, f3, f4⟩ := under_tup (A := X.A) (args := ⟨[.ref p], []⟩)
  refine repr_tup1 ho hc hd hg (by omega) (under_own (by decide) (by omega) I.kIn J hs hf (wpAny_call (codeAny_mono (run _ pins σ H s a t f1 f2 (by omega) (by omega) I ha) fun z s' hq => ?_)))
  cases z with
  | error er => exact hq.elim
  | ok fl => cases fl with
    | ret u =>
      obtain ⟨v, H', I', rv, ev, eH⟩ := I.after hq
      subst ev eH
      obtain ⟨tk, rfl⟩ := rv
      exact ⟨_, _, rfl, hz, ⟨.str (tupleText [t]), H', I'.tok _, ⟨_, rfl⟩, q⟩⟩
    | next => exact hq.elim
    | brk => exact hq.elim
    | cont => exact hq.elim
theorem repr_in_lst (h : ReprOwn X C R) (hg : X.A.guards = some []) (hu : X.A.units + 16 < cLine) : CallR X (.builtin "repr") (fun xs H Q => ∃ (p a : Addr) (t : Str), xs = [.ref p] ∧ H p = some (.lst [.ref a]) ∧ R a H t ∧ (listText [t]).length ≤ sizeLine ∧ Q (.str (listText [t])) H) := by
  obtain ⟨f, hs, hf, run⟩ := h.ex
  intro pins s σ H xs us Q I r q
  obtain ⟨p, a, t, rfl, hp, ha, hz, q⟩ := q
  obtain ⟨u, rfl, ru⟩ := vals1 r
  obtain rfl : u = Value.ref p := ru
  obtain ⟨dx, fs, ea⟩ := h.ins ha
  obtain ⟨_, its, n, rI, ho⟩ := I.hok p _ hp
  obtain ⟨v, rfl, rv⟩ := vals1 rI
  obtain rfl : v = Value.ref a := rv
  refine repr_lst1 ho rfl rfl hg (by omega) (fun P h' tk eP hP kp hP' => ?_)
  obtain ⟨f1, f2, f3, f4⟩ := under_lst (A := X.A) (args := ⟨[.ref p, rawInt 0, .ref P, rawInt 0], []⟩)
  have I1 : L2.Inv X pins σ H { s with heap := h', toks := tk } := I.kept kp
  obtain ⟨mA, O, _⟩ := ins_get I1.hok ea
  obtain ⟨od, J, _⟩ := O.look
  have HP : H P = none := I.hok.fresh (by rw [eP]; exact Nat.le_refl _)
  have nF : P ∉ frs X.stack := fun hm => by
    obtain ⟨_, o', e', _⟩ := Heap.FunFrames.mem I.env0.funs hm
    rw [hP] at e'; cases e'
  refine under_own (by decide) (by omega) I1.kIn J hs hf (wpAny_call (codeAny_mono (run _ pins σ H _ a t f1 f2 (by omega) (by omega) I1 ha) fun z s' hq => ?_))
  cases z with
  | error er => exact hq.elim
  | ok fl => cases fl with
    | ret u =>
      obtain ⟨v, H', hos, hba, un, hok, rv, ev, eH⟩ := hq
      subst ev eH
      obtain ⟨tk', rfl⟩ := rv
      obtain ⟨_, its', n', rI', ho'⟩ := hok p _ hp
      obtain ⟨v', rfl, rv'⟩ := vals1 rI'
      obtain rfl : v' = Value.ref a := rv'
      refine ⟨_, _, rfl, hz, ⟨_, _, ho', rfl⟩, un.keep P _ hP' HP nF (by simp), fun k' u tk2 kk => ⟨.str (listText [t]), H', ?_, ⟨u, rfl⟩, q⟩⟩
      have oldP : ∀ {b : Addr} {o : Obj}, s.heap.get? b = some o → b ≠ P := fun e z => by rw [z, hP] at e; cases e
      have HnP : ∀ {b : Addr} {o : HO}, H' b = some o → b ≠ P := fun e z => by rw [z, HP] at e; cases e
      refine I.call' (ch := []) hos ⟨fun b o e n nf _ => ?_, fun b o e n nf _ => ?_, fun b o e n _ => n, fun b o e _ => ?_, fun b xs e => e, fun b o u e => e, fun b ps e => ⟨#[], by rw [e]; simp⟩⟩ (fun b o e => ?_) hba (fun b z => absurd z (by simp))
      · exact kk _ _ (oldP e) (un.keep b o (kp _ _ e) n nf (by simp))
      · obtain ⟨sl, e2⟩ := un.slot b o (kp _ _ e) n nf (by simp)
        exact ⟨sl, kk _ _ (oldP e) e2⟩
      · obtain ⟨o2, e2⟩ := un.there b o (kp _ _ e) (by simp)
        exact ⟨o2, kk _ _ (oldP e) e2⟩
      · exact (hok b o e).stay (fun c v hc z => kk _ _ (hc.elim (fun z2 => z2 ▸ HnP e) HnP) z) (fun _ z => z) fun _ _ z => z
    | next => exact hq.elim
    | brk => exact hq.elim
    | cont => exact hq.elim
end
end Ts
namespace Ts
open PySem PySem.Spec PyProof.Rows L2 L2H LamX
/-- data, an empty dict, a lot, or a tuple or a list of one lot -/
inductive ShC (K : PySem.W.Frag) (C : Addr) (H : Hp) : V → Str → Prop
  | w {v : V} {t : Str} : ShW K H v t → ShC K C H v t
  | lot {a : Addr} {t : Str} : LotR K C a H t → ShC K C H (.ref a) t
  | tup {p a : Addr} {t : Str} : H p = some (.tup [.ref a]) → LotR K C a H t → ShC K C H (.ref p) (tupleText [t])
  | lst {p a : Addr} {t : Str} : H p = some (.lst [.ref a]) → LotR K C a H t → ShC K C H (.ref p) (listText [t])
theorem LotR.mono {K : PySem.W.Frag} {C a : Addr} {H H' : Hp} {t : Str} (h : LotR K C a H t) (s : Same H H') : LotR K C a H' t := by
  obtain ⟨n, js, L, h⟩ := h
  exact ⟨n, js, L.mono s, h⟩
theorem LotR.len {K : PySem.W.Frag} {C a : Addr} {H : Hp} {t : Str} (h : LotR K C a H t) : t.length ≤ 40 := by
  obtain ⟨n, js, L, h1, h2, rfl⟩ := h
  have l5 := numS_len (n := js.length) (by omega)
  have l6 := numS_len h1
  unfold reprS
  have l1 : (Str.ofString "Lot of ").length = 7 := by decide
  have l2 : (Str.ofString " works, ").length = 8 := by decide
  have l3 : (Str.ofString " hands").length = 6 := by decide
  rw [strLen_append, strLen_append, strLen_append, strLen_append, l1, l2, l3]
  omega
theorem ShC.mono {K : PySem.W.Frag} {C : Addr} {H H' : Hp} {v : V} {t : Str} (h : ShC K C H v t) (s : Same H H') : ShC K C H' v t := by
  cases h with
  | w a => exact .w (a.mono s)
  | lot a => exact .lot (a.mono s)
  | tup a b => exact .tup (s _ _ a) (b.mono s)
  | lst a b => exact .lst (s _ _ a) (b.mono s)
theorem len_tup1 (t : Str) : (tupleText [t]).length = t.length + 3 := by
  show (Str.length (("(" : Str) ++ Str.join ", " [t] ++ (",)" : Str))) = _
  rw [strLen_append, strLen_append, show Str.join ", " [t] = t from rfl]
  show 1 + t.length + 2 = _
  omega
theorem len_lst1 (t : Str) : (listText [t]).length = t.length + 2 := by
  show (Str.length ((("[" : Str) ++ (("" : String) : Str) ++ t) ++ ("]" : Str))) = _
  rw [strLen_append, strLen_append, strLen_append]
  show 1 + 0 + t.length + 1 = _
  omega
theorem call_reprC {X : Cx} {C : Addr} (h : ReprOwn X C (LotR X.K C)) (hg : X.A.guards = some []) (hu : X.A.units + 100 < cLine) : CallR X (.builtin "repr") (fun xs H Q => ∃ v t, xs = [v] ∧ ShC X.K C H v t ∧ Q (.str t) H) := by
  intro pins s σ H xs us Q I r q
  obtain ⟨v, t, rfl, hs, q⟩ := q
  have big : ∀ {k : Nat}, k ≤ 50 → k ≤ sizeLine := fun h => Nat.le_of_lt (small1000 (by omega))
  cases hs with
  | w a => exact call_reprW hg hu pins s σ H _ us Q I r ⟨v, t, rfl, a, q⟩
  | @lot a t b => exact repr_here h (by omega) pins s σ H _ us Q I r ⟨a, t, rfl, b, q⟩
  | @tup p a t e b => exact repr_in_tup h hg (by omega) pins s σ H _ us Q I r ⟨p, a, t, rfl, e, b, big (by rw [len_tup1]; have := b.len; omega), q⟩
  | @lst p a t e b => exact repr_in_lst h hg (by omega) pins s σ H _ us Q I r ⟨p, a, t, rfl, e, b, big (by rw [len_lst1]; have := b.len; omega), q⟩
theorem reprC_cold {P : Program} {w : World} {K : PySem.W.Frag} {mg : Str → Option Value} {base : Heap} {C : Addr} (h : HasS P w K mg base 1 C "__repr__" ["self"] (spRepr K C)) : ReprR P w K mg base false (ShC K C) := by
  refine ⟨fun h s => h.mono s, fun X e1 e2 e3 e4 e5 hg hr hr0 _ => ?_⟩
  subst e1 e2 e3 e4 e5
  exact call_reprC (own_cold h ((hr0 rfl).mono (by decide))) hg (hu100H hr)
theorem reprC_hot {P : Program} {w : World} {K : PySem.W.Frag} {mg : Str → Option Value} {base : Heap} {C : Addr} (h : HasSP P w K mg base 1 C "__repr__" ["self"] (spRepr K C)) : ReprR P w K mg base true (ShC K C) := by
  refine ⟨fun h s => h.mono s, fun X e1 e2 e3 e4 e5 hg hr _ hp => ?_⟩
  subst e1 e2 e3 e4 e5
  obtain ⟨p, hp⟩ := hp rfl
  exact call_reprC (own_hot h hp (hr.mono (by decide))) hg (hu100H hr)
end Ts
namespace Ts
open PySem PySem.Spec PyProof.Rows L2 L2H LamX
/-! ## any value: data, or an empty dict -/
def AnyV (K : PySem.W.Frag) (H : Hp) (v : V) : Option PyData → Prop
  | some d => Dp K H v d
  | none => ∃ a, v = .ref a ∧ H a = some (.dK [])
theorem AnyV.mono {K : PySem.W.Frag} {H H' : Hp} {v : V} {o : Option PyData} (h : AnyV K H v o) (s : Same H H') : AnyV K H' v o := by
  cases o with
  | none => obtain ⟨a, e, h⟩ := h; exact ⟨a, e, s _ _ h⟩
  | some d => exact (show Dp K H v d from h).mono s
theorem AnyV.ext {K : PySem.W.Frag} {H H' : Hp} {v : V} {o : Option PyData} (h : AnyV K H v o) (s : ExtN H H') : AnyV K H' v o := by
  cases o with
  | none => obtain ⟨a, e, h⟩ := h; exact ⟨a, e, s _ _ h fun _ z => by cases z⟩
  | some d => exact dp_ext s _ _ h
def tyN : Option PyData → String
  | none => "dict"
  | some .none => "NoneType"
  | some (.bool _) => "bool"
  | some (.int _) => "int"
  | some (.str _) => "str"
  | some (.list _) => "list"
  | some (.tuple _) => "tuple"
  | some (.dict _) => "dict"
theorem AnyV.ty {K : PySem.W.Frag} {H : Hp} {v : V} {o : Option PyData} (h : AnyV K H v o) : TyX K H v (.type (tyN o)) := by
  cases o with
  | none => obtain ⟨a, rfl, h⟩ := h; exact .base (.dK h)
  | some d =>
    have h' : Dp K H v d := h
    cases h' with
    | non => exact .base .non
    | bl b => exact .base (.bl b)
    | int i => exact .base (.int i)
    | str x => exact .base (.str x)
    | lst a b => exact SqL.ty a
    | tup a b => exact SqT.ty a
theorem AnyV.kind {K : PySem.W.Frag} {H : Hp} {v : V} {o : Option PyData} (h : AnyV K H v o) : KindV K H v (o.bind kindD) := by
  cases o with
  | none => obtain ⟨a, rfl, h⟩ := h; exact ⟨"dict", by decide, .base (.dK h)⟩
  | some d => exact dp_kind h
theorem tyN_in (o : Option PyData) : tyN o ∈ ["dict", "NoneType", "bool", "int", "str", "list", "tuple"] := by
  match o with
  | none => exact (by decide : "dict" ∈ ["dict", "NoneType", "bool", "int", "str", "list", "tuple"])
  | some .none => exact (by decide : "NoneType" ∈ ["dict", "NoneType", "bool", "int", "str", "list", "tuple"])
  | some (.bool _) => exact (by decide : "bool" ∈ ["dict", "NoneType", "bool", "int", "str", "list", "tuple"])
  | some (.int _) => exact (by decide : "int" ∈ ["dict", "NoneType", "bool", "int", "str", "list", "tuple"])
  | some (.str _) => exact (by decide : "str" ∈ ["dict", "NoneType", "bool", "int", "str", "list", "tuple"])
  | some (.list _) => exact (by decide : "list" ∈ ["dict", "NoneType", "bool", "int", "str", "list", "tuple"])
  | some (.tuple _) => exact (by decide : "tuple" ∈ ["dict", "NoneType", "bool", "int", "str", "list", "tuple"])
  | some (.dict _) => exact (by decide : "dict" ∈ ["dict", "NoneType", "bool", "int", "str", "list", "tuple"])
/-! ## what is a name, what is a share -/
/-- the value is not too long -/
def shortV : Option PyData → Prop
  | some (.str t) => t.length ≤ 100 ∧ PyData.strOk t = true
  | some (.tuple ds) => ds.length ≤ 100
  | _ => True
/-! ## put, given anything -/
end Ts
namespace Ts
open PySem PySem.Spec PyProof.Rows L2 L2H LamX
/-! ## odd values, drawn -/
structure OddV (K : PySem.W.Frag) (H : Hp) (v : V) (o : Option PyData) (sh : Str) : Prop where
  av : AnyV K H v o
  sv : ShW K H v sh
  lv : shortV o
  ok : PyData.strOk sh = true
theorem OddV.mono {K : PySem.W.Frag} {H H' : Hp} {v : V} {o : Option PyData} {sh : Str} (h : OddV K H v o sh) (s : Same H H') : OddV K H' v o sh := ⟨h.av.mono s, h.sv.mono s, h.lv, h.ok⟩
theorem OddV.ext {K : PySem.W.Frag} {H H' : Hp} {v : V} {o : Option PyData} {sh : Str} (h : OddV K H v o sh) (s : ExtN H H') : OddV K H' v o sh := by
  refine ⟨h.av.ext s, ?_, h.lv, h.ok⟩
  cases h.sv with
  | data a b c d e => exact .data (dp_ext s _ _ a) b c d e
  | emp a => exact .emp (s _ _ a fun _ z => by cases z)
theorem OddV.of {K : PySem.W.Frag} {H : Hp} {v : V} {d : PyData} (h : Dp K H v d) (h1 : d.showable = true) (h2 : d.hasDict = false) (h3 : d.depth < 60) (h4 : d.shown.length ≤ sizeLine) (h5 : PyData.strOk d.shown = true) (h6 : shortV (some d)) : OddV K H v (some d) d.shown := ⟨h, .data h h1 h2 h3 h4, h6, h5⟩
theorem OddV.emp {K : PySem.W.Frag} {H : Hp} {a : Addr} (h : H a = some (.dK [])) : OddV K H (.ref a) none "{}" := ⟨⟨a, rfl, h⟩, .emp h, trivial, by decide +kernel⟩
theorem strOk_all {t : Str} (h : PyData.strOk t = true) : ∀ c ∈ t.cps.toList, c < 0x110000 := fun c hc => by
  unfold PyData.strOk at h
  rw [← Array.all_toList] at h
  exact of_decide_eq_true (List.all_eq_true.mp h c hc)
end Ts
namespace Ts
open PySem PySem.Spec PyProof.Rows L2 L2H LamX
/-! ## texts of plain signs are written soundly -/
theorem chars_ok {q c : Nat} (hq : q = 34 ∨ q = 39) (hc : c < 128) : ∀ d ∈ Builtin.Str.reprChar q c, d < 0x110000 := by
  have go : ∀ q ∈ [34, 39], ∀ c : Fin 128, ((Builtin.Str.reprChar q c.val).all fun d => decide (d < 0x110000)) = true := by decide +kernel
  intro d hd
  have hq' : q ∈ [34, 39] := by rcases hq with rfl | rfl <;> decide
  exact of_decide_eq_true (List.all_eq_true.mp (go q hq' ⟨c, hc⟩) d hd)
theorem fold_ok {q : Nat} (hq : q = 34 ∨ q = 39) : ∀ (l : List Nat) (acc : Array Nat), (∀ c ∈ l, c < 128) → (∀ d ∈ acc.toList, d < 0x110000) → ∀ d ∈ (l.foldl (fun out c => out ++ (Builtin.Str.reprChar q c).toArray) acc).toList, d < 0x110000
  | [], acc, _, h => h
  | c :: l, acc, hl, h => by
    refine fold_ok hq l _ (fun x hx => hl x (List.mem_cons_of_mem _ hx)) fun d hd => ?_
    rw [Array.toList_append] at hd
    rcases List.mem_append.mp hd with z | z
    · exact h d z
    · exact chars_ok hq (hl c List.mem_cons_self) d (by simpa using z)
theorem text_ok {x : Str} (h : Plain x) : PyData.strOk (PyData.str x).shown = true := by
  show PyData.strOk (reprText x) = true
  unfold reprText
  have hq : reprQuote x = 34 ∨ reprQuote x = 39 := by
    unfold reprQuote
    split
    · exact .inl rfl
    · exact .inr rfl
  unfold PyData.strOk
  rw [← Array.all_toList, Array.toList_push, ← Array.foldl_toList]
  refine List.all_eq_true.mpr fun d hd => decide_eq_true ?_
  have q0 : reprQuote x < 0x110000 := by rcases hq with e | e <;> rw [e] <;> decide
  rcases List.mem_append.mp hd with z | z
  · refine fold_ok hq x.cps.toList _ (fun c hc => h c hc) (fun d hd => ?_) d z
    have : d = reprQuote x := by simpa using hd
    rw [this]; exact q0
  · rw [List.mem_singleton.mp z]; exact q0
theorem plain_ok {x : Str} (h : Plain x) : PyData.strOk x = true := by
  unfold PyData.strOk
  rw [← Array.all_toList]
  exact List.all_eq_true.mpr fun c hc => decide_eq_true (Nat.lt_trans (h c hc) (by decide))
theorem OddV.str {K : PySem.W.Frag} {H : Hp} {x : Str} (h : Plain x) (hl : x.length ≤ 100) : OddV K H (.str x) (some (.str x)) (PyData.str x).shown := by
  obtain ⟨a, b, c, d⟩ := (nice_str (e := 0) h hl).fits (by decide) (by decide)
  exact OddV.of (.str x) a b c d (text_ok h) ⟨hl, plain_ok h⟩
theorem two_ok {a b : Nat} (ha : a ≤ 16) (hb : b ≤ 32) : PyData.strOk (PyData.tuple [.int (a : Int), .int (b : Int)]).shown = true := by
  have go : ∀ (a : Fin 17) (b : Fin 33), PyData.strOk (PyData.tuple [.int ((a.val : Nat) : Int), .int ((b.val : Nat) : Int)]).shown = true := by decide +kernel
  exact go ⟨a, by omega⟩ ⟨b, by omega⟩
theorem OddV.two {K : PySem.W.Frag} {H : Hp} {q : Addr} {a b : Nat} (h : SqT K H q [.int (a : Int), .int (b : Int)]) (ha : a ≤ 16) (hb : b ≤ 32) : OddV K H (.ref q) (some (partD a b)) (PyData.tuple [.int (a : Int), .int (b : Int)]).shown := by
  obtain ⟨x, y, z, w⟩ := (fine_pair (a := a) (b := b) (by omega) (by omega)).fits (by decide) (by decide)
  exact OddV.of (.tup h (.cons (.int _) (.cons (.int _) .nil))) x y z w (two_ok ha hb) (by show 2 ≤ 100; decide)
/-- values of which each one is odd -/
def OddAll (K : PySem.W.Frag) (H : Hp) (xs : List V) : Prop := ∀ v ∈ xs, ∃ o sh, OddV K H v o sh
theorem OddAll.mono {K : PySem.W.Frag} {H H' : Hp} {xs : List V} (h : OddAll K H xs) (s : Same H H') : OddAll K H' xs := fun v hv => by
  obtain ⟨o, sh, g⟩ := h v hv
  exact ⟨o, sh, g.mono s⟩
theorem OddAll.nil {K : PySem.W.Frag} {H : Hp} : OddAll K H [] := fun v hv => by cases hv
theorem OddAll.cons {K : PySem.W.Frag} {H : Hp} {v : V} {o : Option PyData} {sh : Str} {xs : List V} (h : OddV K H v o sh) (t : OddAll K H xs) : OddAll K H (v :: xs) := fun u hu => by
  rcases List.mem_cons.mp hu with rfl | z
  · exact ⟨o, sh, h⟩
  · exact t u z
/-! ## lots stay but for tables -/
theorem hid_in2 {b : Addr} {H : Hp} : ExtN (hid b H) (hid2 b H) := fun a o e n => by
  obtain ⟨h1, h2⟩ := hid_some e
  exact hid2_of h1 n h2
theorem LotAt.ext {K : PySem.W.Frag} {C : Addr} {H H' : Hp} {a : Addr} {n : Nat} {js : List Job} (L : LotAt K C H a n js) (s : ExtN H H') : LotAt K C H' a n js := by
  obtain ⟨dx, pn, ps, pt, h1, ⟨ob, h2, h5⟩, h3, h4⟩ := L.ex
  exact ⟨dx, pn, ps, pt, s _ _ h1 (fun _ z => by cases z), ⟨ob, s _ _ h2 (fun _ z => by cases z), h5⟩, dp_ext s _ _ h3, dp_ext s _ _ h4⟩
theorem Ph.kept {T : List (Addr × Str)} {b lt : Addr} {due : Option (Str × Str)} {H5 Hn : Hp} {xs : List V} {ws : List (Str × Str)} (h : Ph T b lt due H5 Hn xs ws) : Same (hid2 b H5) (hid2 b Hn) := fun a o e => by
  obtain ⟨n, t, e2⟩ := hid2_some (hid2_ext h.s a o e)
  exact hid2_of n t (hid2_sub _ _ e2)
/-! ## what is heard of put -/
def inN (js : List Job) : Option PyData → Bool
  | some (.str t) => decide (t ∈ js.map (·.1))
  | _ => false
end Ts
namespace Ts
open PySem PySem.Spec PyProof.Rows L2 L2H LamX
theorem due_test {K : PySem.W.Frag} {H : Hp} {dl : Addr} {d : Option (Str × Str)} (e : H dl = some (.lst (dueV d))) (ok : ∀ x, d = some x → PyData.strOk x.1 = true ∧ PyData.strOk x.2 = true) :
    ∃ D, Dp K H (.ref dl) D ∧ SeqAt.shaped D = true ∧ D.eqv (.list []) = d.isNone := by
  cases d with
  | none => exact ⟨.list [], .lst (SqL.of e) .nil, by decide, by decide⟩
  | some x => exact ⟨pairW x, .lst (SqL.of e) (.cons (.str _) (.cons (.str _) .nil)), shaped_due (ok x rfl), rfl⟩
end Ts
namespace Ts
open PySem PySem.Spec PyProof.Rows L2 L2H LamX
/-! ## lots and names, given anything -/
abbrev plainT : List String := ["dict", "NoneType", "bool", "int", "str", "list", "tuple"]
/-- no value of these kinds is a lot -/
structure LotNo (K : PySem.W.Frag) (C : Addr) : Prop where
  no : ∀ T ∈ plainT, PySem.W.kitOne K (.type T) (.ref C) = some false
/-- a value that is no lot -/
def NoLot (K : PySem.W.Frag) (H : Hp) (v : V) : Prop := ∃ T, T ∈ plainT ∧ TyX K H v (.type T)
theorem NoLot.mono {K : PySem.W.Frag} {H H' : Hp} {v : V} (h : NoLot K H v) (s : Same H H') : NoLot K H' v := by
  obtain ⟨T, h1, h2⟩ := h
  exact ⟨T, h1, TyX.mono h2 s⟩
theorem NoLot.ext {K : PySem.W.Frag} {H H' : Hp} {v : V} (h : NoLot K H v) (s : ExtN H H') : NoLot K H' v := by
  obtain ⟨T, h1, h2⟩ := h
  exact ⟨T, h1, TyX.ext h2 s⟩
theorem AnyV.noLot {K : PySem.W.Frag} {H : Hp} {v : V} {o : Option PyData} (h : AnyV K H v o) : NoLot K H v := ⟨_, tyN_in o, h.ty⟩
/-- a lot, or none -/
def LotOr (K : PySem.W.Frag) (C : Addr) (H : Hp) (v : V) : Option (Nat × List Job) → Prop
  | some p => ∃ a, v = .ref a ∧ LotAt K C H a p.1 p.2
  | none => NoLot K H v
theorem LotOr.mono {K : PySem.W.Frag} {C : Addr} {H H' : Hp} {v : V} {o : Option (Nat × List Job)} (h : LotOr K C H v o) (s : Same H H') : LotOr K C H' v o := by
  cases o with
  | none => exact NoLot.mono h s
  | some p => obtain ⟨a, e, L⟩ := h; exact ⟨a, e, L.mono s⟩
theorem LotOr.ext {K : PySem.W.Frag} {C : Addr} {H H' : Hp} {v : V} {o : Option (Nat × List Job)} (h : LotOr K C H v o) (s : ExtN H H') : LotOr K C H' v o := by
  cases o with
  | none => exact NoLot.ext h s
  | some p => obtain ⟨a, e, L⟩ := h; exact ⟨a, e, L.ext s⟩
theorem Raise1.mono {C : Addr} {fld : Str} {v : V} {H H' : Hp} {E : XK} (h : Raise1 C fld v H E) (s : Same H H') : Raise1 C fld v H' E := fun H2 d s2 => h H2 d (s.trans s2)
def spCheckLotX (K : PySem.W.Frag) (C CL : Addr) : Sp := fun vs H Q E => ∃ (v : V) (o : Option (Nat × List Job)), vs = [v] ∧ LotOr K C H v o ∧ (o.isSome = true → Q .non H) ∧ (o = none → Raise1 CL "given" v H E)
theorem inRg_is {o : Option Int} {lo hi : Int} (h : inRg o lo hi = true) : ∃ i, o = some i ∧ lo ≤ i ∧ i ≤ hi := by
  cases o with
  | none => cases h
  | some i => exact ⟨i, rfl, of_decide_eq_true h⟩
end Ts
namespace Ts
open PySem PySem.Spec PyProof.Rows L2 L2H LamX
/-! ## what is heard of lots -/
/-! ## things that are no lots -/
structure NoLotV (K : PySem.W.Frag) (C : Addr) (H : Hp) (v : V) (sh : Str) : Prop where
  no : NoLot K H v
  sv : ShC K C H v sh
  ok : PyData.strOk sh = true
theorem ShC.ext {K : PySem.W.Frag} {C : Addr} {H H' : Hp} {v : V} {t : Str} (h : ShC K C H v t) (s : ExtN H H') : ShC K C H' v t := by
  have lx : ∀ {a : Addr} {t : Str}, LotR K C a H t → LotR K C a H' t := fun ⟨n, js, L, z⟩ => ⟨n, js, L.ext s, z⟩
  cases h with
  | w a =>
    cases a with
    | data a b c d e => exact .w (.data (dp_ext s _ _ a) b c d e)
    | emp a => exact .w (.emp (s _ _ a fun _ z => by cases z))
  | lot a => exact .lot (lx a)
  | tup a b => exact .tup (s _ _ a fun _ z => by cases z) (lx b)
  | lst a b => exact .lst (s _ _ a fun _ z => by cases z) (lx b)
theorem NoLotV.mono {K : PySem.W.Frag} {C : Addr} {H H' : Hp} {v : V} {sh : Str} (h : NoLotV K C H v sh) (s : Same H H') : NoLotV K C H' v sh := ⟨h.no.mono s, h.sv.mono s, h.ok⟩
theorem NoLotV.ext {K : PySem.W.Frag} {C : Addr} {H H' : Hp} {v : V} {sh : Str} (h : NoLotV K C H v sh) (s : ExtN H H') : NoLotV K C H' v sh := ⟨h.no.ext s, h.sv.ext s, h.ok⟩
theorem OddV.noLot {K : PySem.W.Frag} {C : Addr} {H : Hp} {v : V} {o : Option PyData} {sh : Str} (h : OddV K H v o sh) : NoLotV K C H v sh := ⟨h.av.noLot, .w h.sv, h.ok⟩
theorem NoLotV.str {K : PySem.W.Frag} {C : Addr} {H : Hp} {x : Str} (h : Plain x) (hl : x.length ≤ 1000) : NoLotV K C H (.str x) (PyData.str x).shown := by
  obtain ⟨a, b, c, d⟩ := (nice_str (e := 0) h hl).fits (by decide) (by decide)
  exact ⟨⟨"str", by decide, .base (.str x)⟩, .w (.data (.str x) a b c d), text_ok h⟩
theorem strOk_app {x y : Str} (h : PyData.strOk x = true) (g : PyData.strOk y = true) : PyData.strOk (x ++ y) = true := by
  unfold PyData.strOk at h g ⊢
  rw [← Array.all_toList] at h g ⊢
  refine List.all_eq_true.mpr fun c hc => ?_
  have hc' : c ∈ (x.cps ++ y.cps).toList := hc
  rw [Array.toList_append] at hc'
  exact (List.mem_append.mp hc').elim (List.all_eq_true.mp h c) (List.all_eq_true.mp g c)
theorem NoLotV.tup {K : PySem.W.Frag} {C : Addr} {H : Hp} {p a : Addr} {n : Nat} {js : List Job} (h : H p = some (.tup [.ref a])) (L : LotAt K C H a n js) (hn : n ≤ 6) (hl : js.length ≤ 6) : NoLotV K C H (.ref p) (tupleText [reprS js.length n]) :=
  ⟨⟨"tuple", by decide, .base (.tup h)⟩, .tup h ⟨n, js, L, by omega, by omega, rfl⟩, by
    show PyData.strOk (("(" : Str) ++ Str.join ", " [reprS js.length n] ++ (",)" : Str)) = true
    exact strOk_app (strOk_app (by decide +kernel) (plain_ok (plain_repr _ _))) (by decide +kernel)⟩
theorem NoLotV.lst {K : PySem.W.Frag} {C : Addr} {H : Hp} {p a : Addr} {n : Nat} {js : List Job} (h : H p = some (.lst [.ref a])) (L : LotAt K C H a n js) (hn : n ≤ 6) (hl : js.length ≤ 6) : NoLotV K C H (.ref p) (listText [reprS js.length n]) :=
  ⟨⟨"list", by decide, .base (.lst h)⟩, .lst h ⟨n, js, L, by omega, by omega, rfl⟩, by
    show PyData.strOk ((("[" : Str) ++ (("" : String) : Str) ++ reprS js.length n) ++ ("]" : Str)) = true
    exact strOk_app (strOk_app (strOk_app (by decide +kernel) (by decide +kernel)) (plain_ok (plain_repr _ _))) (by decide +kernel)⟩
end Ts
namespace Ts
open PySem PySem.Spec PyProof.Rows L2 L2H LamX
/-- a small datum of which all is reckoned -/
theorem OddV.dec {K : PySem.W.Frag} {H : Hp} {v : V} {d : PyData} (h : Dp K H v d) (c : (d.showable && !d.hasDict && decide (d.depth < 60) && decide (d.shown.length ≤ 1000) && PyData.strOk d.shown) = true) (h6 : shortV (some d)) : OddV K H v (some d) d.shown := by
  simp only [Bool.and_eq_true, Bool.not_eq_true'] at c
  obtain ⟨⟨⟨⟨c1, c2⟩, c3⟩, c4⟩, c5⟩ := c
  exact OddV.of h c1 c2 (of_decide_eq_true c3) (Nat.le_of_lt (small1000 (of_decide_eq_true c4))) c5 h6
end Ts
namespace Ts
open PySem PySem.Spec PyProof.Rows L2 L2H LamX
/-- values that are no lots -/
def NoLots (K : PySem.W.Frag) (C : Addr) (H : Hp) (xs : List V) : Prop := ∀ v ∈ xs, ∃ sh, NoLotV K C H v sh
theorem NoLots.nil {K : PySem.W.Frag} {C : Addr} {H : Hp} : NoLots K C H [] := fun v hv => by cases hv
theorem NoLots.cons {K : PySem.W.Frag} {C : Addr} {H : Hp} {v : V} {sh : Str} {xs : List V} (h : NoLotV K C H v sh) (t : NoLots K C H xs) : NoLots K C H (v :: xs) := fun u hu => by
  rcases List.mem_cons.mp hu with rfl | z
  · exact ⟨sh, h⟩
  · exact t u z
end Ts
namespace Ts
open PySem PySem.Spec PyProof.Rows L2 L2H LamX
/-! ## the bag that the later laws draw from -/
/-- at b: where draws come from; the seed is not too great -/
def Bag (H : Hp) (b : Addr) : Prop := ∃ x y z : Int, 0 ≤ x ∧ x < 2147483587 ∧ H b = some (.lst [.int x, .int y, .int z])
theorem Bag.bas {H : Hp} {b : Addr} (h : Bag H b) : Bas H b := by
  obtain ⟨x, y, z, _, _, e⟩ := h
  exact ⟨x, y, z, e⟩
theorem Bag.on {H H' : Hp} {b : Addr} (h : Bag H b) (s : Same H H') : Bag H' b := by
  obtain ⟨x, y, z, h1, h2, e⟩ := h
  exact ⟨x, y, z, h1, h2, s _ _ e⟩
theorem Bag.ext {H H' : Hp} {b : Addr} (h : Bag H b) (s : ExtN H H') : Bag H' b := by
  obtain ⟨x, y, z, h1, h2, e⟩ := h
  exact ⟨x, y, z, h1, h2, s _ _ e fun _ q => nomatch q⟩
theorem Bag.off {H : Hp} {b p : Addr} (h : Bag H b) (hp : H p = none) : p ≠ b := h.bas.off hp
theorem Bag.ne {H : Hp} {b p : Addr} {xs : List V} (h : Bag H b) (hp : H p = some (.tup xs)) : p ≠ b := fun z => by
  obtain ⟨x, y, w, _, _, e⟩ := h
  rw [z, e] at hp; cases hp
/-! ## the greatest common divisor, in so many steps -/
end Ts
namespace Ts
open PySem PySem.Spec PyProof.Rows L2 L2H LamX
/-! ## what is asked by a lot, a name and a number, given anything -/
def spCheckFarX (K : PySem.W.Frag) (CN : Addr) (lo : Int) : Sp := fun vs H Q E => ∃ (v : V) (o : Option Int), vs = [v] ∧ KindV K H v o ∧ (inRg o lo (10 ^ 30) = true → Q .non H) ∧ (inRg o lo (10 ^ 30) = false → Raise1 CN "given" v H E)
/-! ## numbers of turns are not too great -/
theorem mul_le16 {t : Int} {p : Nat} (h0 : 0 ≤ t) (h1 : t ≤ 10 ^ 30 + 16) (hp : p ≤ 16) : 0 ≤ t * (p : Int) ∧ t * (p : Int) ≤ (10 ^ 30 + 16) * 16 := by
  have a : 0 ≤ t * (p : Int) := Int.mul_nonneg h0 (by omega)
  have b : t * (p : Int) ≤ t * 16 := Int.mul_le_mul_of_nonneg_left (by omega) h0
  have c : t * 16 ≤ (10 ^ 30 + 16) * 16 := Int.mul_le_mul_of_nonneg_right h1 (by decide)
  omega
theorem big40 : ((10 : Int) ^ 30 + 16) * 16 + 100 < 10 ^ 40 := by decide
theorem div_between {a : Int} {e : Nat} (h0 : 0 ≤ a) (he : 1 ≤ e) : 0 ≤ a / (e : Int) ∧ a / (e : Int) ≤ a :=
  ⟨Int.ediv_nonneg h0 (by omega), Int.ediv_le_self _ h0⟩
theorem lowI_fine {e p : Nat} {t : Int} (g : GoodPart 16 e p) (h1 : 0 ≤ t) (h2 : t ≤ 10 ^ 30) : (0 ≤ lowI e p t ∧ lowI e p t < 10 ^ 40) ∧ 0 ≤ highI e p t ∧ highI e p t < 10 ^ 40 := by
  obtain ⟨g1, g2, g3, g4⟩ := g
  obtain ⟨a, b⟩ := mul_le16 (t := t) (p := e) (by omega) (by omega) (by omega)
  obtain ⟨c, d⟩ := div_between a (e := p) (by omega)
  obtain ⟨c2, d2⟩ := div_between (a := t * (e : Int) + (p : Int) - 1) (e := p) (by omega) (by omega)
  have := big40
  unfold lowI highI
  omega
end Ts
namespace Ts
open PySem PySem.Spec PyProof.Rows L2 L2H LamX
theorem itT {b : Bool} {A B : Prop} (e : b = true) (h : A) : (if b = true then A else B) := by rw [if_pos e]; exact h
theorem itF {b : Bool} {A B : Prop} (e : b = false) (h : B) : (if b = true then A else B) := by rw [if_neg (by rw [e]; decide)]; exact h
/-! ## the sum of a tuple of ints -/
/-! ## certificates: () or not -/
def CertV (K : PySem.W.Frag) (H : Hp) (v : V) : Bool → Prop
  | true => ∃ p, v = .ref p ∧ SqT K H p []
  | false => (∃ p xs, v = .ref p ∧ SqT K H p xs ∧ xs ≠ []) ∨ ∃ T, T ∈ ["dict", "NoneType", "bool", "int", "str", "list"] ∧ TyX K H v (.type T)
theorem CertV.mono {K : PySem.W.Frag} {H H' : Hp} {v : V} {e : Bool} (h : CertV K H v e) (s : Same H H') : CertV K H' v e := by
  cases e with
  | true => obtain ⟨p, h1, h2⟩ := h; exact ⟨p, h1, sameT s h2⟩
  | false =>
    rcases h with ⟨p, xs, h1, h2, h3⟩ | ⟨T, h1, h2⟩
    · exact .inl ⟨p, xs, h1, sameT s h2, h3⟩
    · exact .inr ⟨T, h1, TyX.mono h2 s⟩
/-! ## shares that fit a log -/
/-! ## what the checker answers, for a claim with this word -/
end Ts
namespace Ts
open PySem PySem.Spec PyProof.Rows L2 L2H LamX
/-! ## logs as things -/
/-- a share kept at an address -/
def Shr (H : Hp) (b : Addr) (t : Addr × Nat × Nat) : Prop := t.1 ≠ b ∧ H t.1 = some (.tup [.int (t.2.1 : Int), .int (t.2.2 : Int)]) ∧ GoodPart 1000 t.2.1 t.2.2 ∧ t.2.2 ≤ 14
theorem Shr.but {H H' : Hp} {b : Addr} {t : Addr × Nat × Nat} (h : Shr H b t) (s : But b H H') : Shr H' b t := ⟨h.1, s _ _ h.1 h.2.1, h.2.2⟩
theorem CertV.empty {K : PySem.W.Frag} {H : Hp} {c : Addr} (h : SqT K H c []) : CertV K H (.ref c) true := ⟨c, rfl, h⟩
end Ts
namespace Ts
open PySem PySem.Spec PyProof.Rows L2 L2H LamX
/-! ## the later laws' lots -/
def partJ (j : Job) : PyData := partD j.2.1 j.2.2
/-- a work kept at an address, its share at another -/
def Wk (H : Hp) (b : Addr) (t : Addr × Addr × Job) : Prop := t.1 ≠ b ∧ H t.1 = some (.tup [.str t.2.2.1, .ref t.2.1]) ∧ t.2.1 ≠ b ∧ H t.2.1 = some (.tup [.int (t.2.2.2.1 : Int), .int (t.2.2.2.2 : Int)])
/-- tuples off b stay -/
def TupB (b : Addr) (H H' : Hp) : Prop := ∀ a xs, a ≠ b → H a = some (.tup xs) → H' a = some (.tup xs)
theorem TupB.of {b : Addr} {H H' : Hp} (s : But b H H') : TupB b H H' := fun _ _ n h => s _ _ n h
theorem TupB.trans {b : Addr} {H H' H'' : Hp} (s : TupB b H H') (t : TupB b H' H'') : TupB b H H'' := fun a xs n h => t a xs n (s a xs n h)
theorem TupB.lst {b c : Addr} {H : Hp} {xs : List V} {o : HO} (h : H c = some (.lst xs)) : TupB b H (upd H c o) := fun a ys _ e => by rw [upd_ne (fun z => by rw [z, h] at e; cases e)]; exact e
theorem TupB.new {b c : Addr} {H : Hp} {o : HO} (h : H c = none) : TupB b H (upd H c o) := fun a ys _ e => same_new h _ _ e
theorem Wk.dp {K : PySem.W.Frag} {H : Hp} {b : Addr} {t : Addr × Addr × Job} (h : Wk H b t) : Dp K (hid b H) (.ref t.1) (jobD t.2.2) :=
  .tup (SqT.of ((hid_ne h.1).trans h.2.1)) (.cons (.str _) (.cons (.tup (SqT.of ((hid_ne h.2.2.1).trans h.2.2.2)) (.cons (.int _) (.cons (.int _) .nil))) .nil))
theorem Wk.all {K : PySem.W.Frag} {H : Hp} {b : Addr} : ∀ {ws : List (Addr × Addr × Job)}, (∀ t ∈ ws, Wk H b t) → DpAll K (hid b H) (ws.map fun t => V.ref t.1) ((ws.map fun t => t.2.2).map jobD)
  | [], _ => .nil
  | t :: ws, h => .cons (h t List.mem_cons_self).dp (Wk.all fun x hx => h x (List.mem_cons_of_mem _ hx))
theorem Wk.parts {K : PySem.W.Frag} {H : Hp} {b : Addr} : ∀ {ws : List (Addr × Addr × Job)}, (∀ t ∈ ws, Wk H b t) → DpAll K H (ws.map fun t => V.ref t.2.1) ((ws.map fun t => t.2.2).map partJ)
  | [], _ => .nil
  | t :: ws, h => .cons (.tup (SqT.of (h t List.mem_cons_self).2.2.2) (.cons (.int _) (.cons (.int _) .nil))) (Wk.parts fun x hx => h x (List.mem_cons_of_mem _ hx))
end Ts
namespace Ts
open PySem PySem.Spec PyProof.Rows L2 L2H LamX
/-! ## zip of a tuple and a list -/
def ItzM (K : PySem.W.Frag) (a b : Addr) : It :=
  ⟨fun i H => ∃ xs ys x y, (SqT K H a xs ∧ xs[i]? = some x) ∧ SqL K H b ys ∧ ys[i]? = some y,
   fun i H v H' => ∃ T x y, (v = V.ref T ∧ H T = none) ∧ (H' = upd H T (.tup [x, y])) ∧ (∀ xs, SqT K H a xs → xs[i]? = some x) ∧ (∀ ys, SqL K H b ys → ys[i]? = some y),
   fun i H => ∃ xs ys, SqT K H a xs ∧ SqL K H b ys ∧ i = min xs.length ys.length⟩
def ZipSt (z TI TO i1 i2 a b : Addr) : Nat → Heap → Prop := fun i h => IsZip h z TI TO .none ∧ IsTupOf2 h TI (.ref i1) (.ref i2) ∧ (∃ x y, IsTupOf2 h TO x y) ∧ h.IsTupleIter i1 a i ∧ h.IsListIter i2 b i
theorem five {z TI TO i1 i2 c : Addr} (h : c ∈ [z, TI, TO, i1, i2]) : c = z ∨ c = TI ∨ c = TO ∨ c = i1 ∨ c = i2 := by simpa using h
theorem ZipSt.lives {z TI TO i1 i2 a b : Addr} {i : Nat} {h : Heap} (st : ZipSt z TI TO i1 i2 a b i h) : ∀ c ∈ [z, TI, TO, i1, i2], ∃ o, h.get? c = some o ∧ ∀ v, o.data ≠ .cell v := by
  obtain ⟨g1, g2, ⟨x, y, g3⟩, ⟨o1, e1, _, d1⟩, ⟨o2, e2, _, d2⟩⟩ := st
  intro c hc
  rcases five hc with rfl | rfl | rfl | rfl | rfl
  · exact ⟨_, g1, fun _ => nofun⟩
  · exact ⟨_, g2, fun _ => nofun⟩
  · exact ⟨_, g3, fun _ => nofun⟩
  · exact ⟨o1, e1, fun v w => by rw [d1] at w; cases w⟩
  · exact ⟨o2, e2, fun v w => by rw [d2] at w; cases w⟩
theorem turn_zipM {P : Program} {w : World} {K : PySem.W.Frag} {elts : List Expr} {kk : Nat} {tpos : Pos} {a b z TI TO i1 i2 : Addr} (S : ZipSep2 z TI TO i1 i2 [i1, a] [i2, b]) (h1 : a ≠ i1) (h2 : b ≠ i2) :
    Turn P w K (.Tuple elts kk tpos) (ItzM K a b) [z, TI, TO, i1, i2] z (ZipSt z TI TO i1 i2 a b) where
  mem := List.mem_cons_self
  obj := fun _ _ st => st.lives
  keep := fun i h h' st k => by
    obtain ⟨g1, g2, ⟨x, y, g3⟩, g4, g5⟩ := st
    exact ⟨k z (by simp) _ g1, k TI (by simp) _ g2, ⟨x, y, k TO (by simp) _ g3⟩, g4.at fun o e => k i1 (by simp) o e, g5.at fun o e => k i2 (by simp) o e⟩
  item := by
    intro X hP hw hK hc i pins s σ H E I hf st hg
    subst hP hw hK
    obtain ⟨xs, ys, x, y, ⟨qx, ex⟩, qy, ey⟩ := hg
    have live := st.lives
    obtain ⟨g1, g2, g3, g4, g5⟩ := st
    obtain ⟨its, rv, p, _⟩ := I.tuple qx
    obtain ⟨its2, rv2, p2, _⟩ := I.list qy
    obtain ⟨u, eu, ru⟩ := rv.get ex
    obtain ⟨u2, eu2, ru2⟩ := rv2.get ey
    have hd : X.A.in1.handled = none := I.ok.hd hc
    have G := GoesN.zip2 (prog := X.prog) (w := X.w) (elts := elts) (x1 := kk) (pos := tpos) S (Draws.tuple hd i1 a h1 its.toArray) (Draws.list hd i2 b h2 its2.toArray)
    have li : i < min its.toArray.size its2.toArray.size := by
      have m1 := (List.getElem?_eq_some_iff.mp eu).1
      have m2 := (List.getElem?_eq_some_iff.mp eu2).1
      simp only [List.size_toArray]; omega
    refine G.goes i s _ E li ⟨g1, g2, g3, ⟨g4, p⟩, g5, p2.isList⟩ fun v h' tk hv st2 hk _ => ?_
    obtain ⟨T, w1, w2, rfl, hT, e1, e2, tup⟩ := hv
    obtain rfl : u = w1 := by
      have : its.toArray[i]? = some u := by simpa using eu
      exact Option.some.inj (this.symm.trans e1)
    obtain rfl : u2 = w2 := by
      have : its2.toArray[i]? = some u2 := by simpa using eu2
      exact Option.some.inj (this.symm.trans e2)
    obtain ⟨k1, k2, k3, ⟨k4, _⟩, k5, _⟩ := st2
    have new : ObjOk X.prog X.w (upd H T (.tup [x, y])) h' T (.tup [x, y]) := ⟨by show 2 ≤ sizeLine; decide, [u, u2], .cons ru (.cons ru2 .nil), tup⟩
    have I1 : Inv X pins σ (upd H T (.tup [x, y])) { s with heap := h', toks := tk } := I.turnedNew (t' := tk) (ch := [z, TI, TO, i1, i2]) (fun c o hb q => hk c o (fun n => hb (by
      have : c = z ∨ c = TO ∨ c = i1 ∨ c = i2 := by simpa using n
      rcases this with rfl | rfl | rfl | rfl <;> simp)) q) hf hT new
    refine ⟨.ref T, _, I1, rfl, ⟨T, x, y, ⟨rfl, I.hok.fresh hT⟩, rfl, fun l hl => by rw [I.tuple_inj hl qx]; exact ex, fun l hl => by rw [I.list_inj hl qy]; exact ey⟩, ⟨k1, k2, k3, k4, k5⟩, fun c hc' => ?_⟩
    obtain ⟨o, lo, _⟩ := live c hc'
    rw [upd_ne (Nat.ne_of_lt (Nat.lt_of_lt_of_le (Heap.lt_size lo) hT))]
    exact (hf c hc').1
  done := by
    intro X hP hw hK hc i pins s σ H E I hf st hg
    subst hP hw hK
    obtain ⟨xs, ys, qx, qy, rfl⟩ := hg
    obtain ⟨g1, g2, g3, g4, g5⟩ := st
    obtain ⟨its, rv, p, _⟩ := I.tuple qx
    obtain ⟨its2, rv2, p2, _⟩ := I.list qy
    have hd : X.A.in1.handled = none := I.ok.hd hc
    have G := GoesN.zip2 (prog := X.prog) (w := X.w) (elts := elts) (x1 := kk) (pos := tpos) S (Draws.tuple hd i1 a h1 its.toArray) (Draws.list hd i2 b h2 its2.toArray)
    have em : min its.toArray.size its2.toArray.size = min xs.length ys.length := by rw [List.size_toArray, List.size_toArray, rv.length, rv2.length]
    refine G.stops s _ E ?_ fun h' tk hk _ => ?_
    · rw [em]; exact ⟨g1, g2, g3, ⟨g4, p⟩, g5, p2.isList⟩
    · exact I.turnedL (t' := tk) (ch := [z, TI, TO, i1, i2]) (fun c o hb q => hk c o (fun n => hb (by
        have : c = z ∨ c = TO ∨ c = i1 ∨ c = i2 := by simpa using n
        rcases this with rfl | rfl | rfl | rfl <;> simp)) q) hf
  self := fun _ _ _ _ _ st h => wpAny_pyIter_zip st.1 h
def iZipM (K : PySem.W.Frag) (ta : TA) : TI := fun σ H R => ta σ H fun vs H1 => ∃ a b xs ys, vs = [V.ref a, V.ref b] ∧ SqT K H1 a xs ∧ SqL K H1 b ys ∧ R (ItzM K a b) H1
theorem pi_zipM {X : Cx} {K : PySem.W.Frag} (hXK : X.K = K) {e1 e2 : Expr} {ta : TA} {p pos tpos : Pos} {elts : List Expr} {kk : Nat} (hg : Gl X "zip") (hm : X.mg "zip" = none) (ha : PA X [e1, e2] ta)
    (h1 : starEach [e1, e2] X.env = (false, eval e1 X.env) :: starEach [e2] X.env := by rfl)
    (h2 : (backTo pos (starEach [e2] X.env)).any (·.1) = false := by rfl) : PI X (.Tuple elts kk tpos) (.Call (.Name "zip" p) [e1, e2] [] pos) (iZipM K ta) := by
  subst hXK
  refine ⟨fun pins s σ H R I h => Call_ (ld_blt I hg hm PyProof.Rows.boot_zip (PyProof.Rows.callWith_type1 (thn (ha.run pos pins s σ H _ I h) fun us s1 ⟨vs, H1, I1, r1, a, b, xs, ys, ev, qx, qy, q⟩ => ?_) h1 h2))⟩
  subst ev
  obtain ⟨u1, u2, rfl, r, r2⟩ := vals2 r1
  obtain rfl : u1 = Value.ref a := r
  obtain rfl : u2 = Value.ref b := r2
  obtain ⟨its, rv, p1, _⟩ := I1.tuple qx
  obtain ⟨its2, rv2, p2, _⟩ := I1.list qy
  have la : a < s1.heap.objs.size := by obtain ⟨o, ho, _⟩ := id p1; exact Heap.lt_size ho
  have lb : b < s1.heap.objs.size := by obtain ⟨o, ho, _⟩ := id p2.isList; exact Heap.lt_size ho
  refine zip_begins2 (begins_tuple a its.toArray) (begins_list b its2.toArray) p1 p2.isList fun h' hz hTI hTO g1 g2 _ hk => wpAny_pyIter_zip hz ?_
  have I2 : Inv X pins σ H1 { s1 with heap := h' } := I1.kept (t' := s1.toks) hk
  refine ⟨s1.heap.objs.size + 4, [s1.heap.objs.size + 4, s1.heap.objs.size + 2, s1.heap.objs.size + 3, s1.heap.objs.size, s1.heap.objs.size + 1], _, _, H1, rfl, I2,
    turn_zipM (zip_sep2 (fun c hc => by rw [List.mem_singleton.mp hc]; exact la) (fun c hc => by rw [List.mem_singleton.mp hc]; exact lb)) (Nat.ne_of_lt la) (Nat.ne_of_lt (Nat.lt_succ_of_lt lb)), ⟨hz, hTI, ⟨_, _, hTO⟩, ⟨_, g1, rfl, rfl⟩, ⟨_, g2, rfl, rfl⟩⟩, fun c hc => ?_, q⟩
  have le : s1.heap.objs.size ≤ c := by
    rcases five hc with rfl | rfl | rfl | rfl | rfl
    · exact Nat.le_add_right _ _
    · exact Nat.le_add_right _ _
    · exact Nat.le_add_right _ _
    · exact Nat.le_refl _
    · exact Nat.le_add_right _ _
  exact I1.fpOk le (I1.hok.fresh le)
theorem walk_zipM {K : PySem.W.Frag} {a b : Addr} {xs ys : List V} {n : Nat} (hn : n = min xs.length ys.length) : Walk (ItzM K a b) n (fun H => SqT K H a xs ∧ SqL K H b ys) (YPair (fun i => xs[i]?) (fun i => ys[i]?)) where
  goes := fun i H hi g => ⟨xs, ys, xs[i], ys[i], ⟨g.1, List.getElem?_eq_getElem (by omega)⟩, g.2, List.getElem?_eq_getElem (by omega)⟩
  stops := fun H g => ⟨xs, ys, g.1, g.2, hn⟩
  yields := fun i H v H' hi g y => by
    obtain ⟨T, x, y, ⟨h1, h2⟩, h3, h4, h5⟩ := y
    exact ⟨T, x, y, h1, h2, h3, h4 xs g.1, h5 ys g.2⟩
/-! ## a certificate that tells the works of each tick -/
abbrev TabT := Option (List (Option (List (Option Int))))
def TabP (K : PySem.W.Frag) (H : Hp) (v : V) : TabT → Prop
  | some rs => ∃ (p : Addr) (xs : List V), v = .ref p ∧ H p = some (.tup xs) ∧ xs.length = rs.length ∧ ∀ (i : Nat) (x : V) (r : Option (List (Option Int))), xs[i]? = some x → rs[i]? = some r → ThingAt K H x r
  | none => ∃ T, T ∈ ["int", "bool", "str", "NoneType", "list", "dict"] ∧ TyX K H v (.type T)
theorem TabP.mono {K : PySem.W.Frag} {H H' : Hp} {v : V} {t : TabT} (h : TabP K H v t) (s : Same H H') : TabP K H' v t := by
  cases t with
  | none => obtain ⟨T, h1, h2⟩ := h; exact ⟨T, h1, TyX.mono h2 s⟩
  | some rs => obtain ⟨p, xs, h1, h2, h3, h4⟩ := h; exact ⟨p, xs, h1, s _ _ h2, h3, fun i x o a b => (h4 i x o a b).mono s⟩
/-! ## counts that are valid -/
end Ts
namespace Ts
open PySem PySem.Spec PyProof.Rows L2
theorem hu2 {A : Around} (h : A.units + 64 < cLine) : A.in1.in1.units < cLine := by show A.units + 1 + 1 < cLine; omega
/-- enumerate of a tuple -/
theorem wlk_enumT {K : PySem.W.Frag} {a : Addr} {xs : List V} {c : Int} : Walk (IteT K a c) xs.length (fun H => SqT K H a xs) (YPair (fun i => some (.int (c + (i : Nat)))) (fun i => xs[i]?)) where
  goes := fun i H hi g => ⟨xs, xs[i], g, List.getElem?_eq_getElem hi⟩
  stops := fun H g => ⟨xs, g, Nat.le_refl _⟩
  yields := fun i H v H' hi g y => by
    obtain ⟨T, x, h1, h2, h3, h4⟩ := y
    exact ⟨T, _, x, h1, h2, h3, rfl, h4 xs g⟩
theorem sqt_ty {K : PySem.W.Frag} {H : Hp} {a : Addr} {xs : List V} (h : SqT K H a xs) : TyX K H (.ref a) (.type "tuple") := by
  rcases h with (h | ⟨o, h⟩) | ⟨o, its, n, h1, h2, _⟩
  · exact .base (.tup h)
  · exact .fTuple h
  · exact .kTuple h1 h2
/-! ## who is ahead -/
def aheadN (js : List Job) (t : Int) (r : List Int) : Nat := crewN (posL (fun q : Job × Int => decide (lowI q.1.2.1 q.1.2.2 t < q.2)) (js.zip r) 0)
abbrev handsL (n : Nat) (js : List Job) : List Nat := List.replicate (spanN js) n
def aliveR (js : List Job) (n : Nat) (t : Int) : List (List Int) := (rowsR js t).filter fun r => aliveB js (handsL n js) (t % (spanN js : Int)).toNat (aheadN js t r)
def crewRows (cs : List Nat) : List (List Int) := cs.map fun c => (membersN c).map fun m : Nat => (m : Int)
/-! ## what is asked -/
def spRoundOf (K : PySem.W.Frag) (C CW : Addr) : Sp := fun vs H Q _ => ∃ (a : Addr) (n : Nat) (js : List Job), vs = [.ref a] ∧ LotAt K C H a n js ∧ Good 16 js ∧ js.length ≤ 6 ∧ spanN js ≤ 720 ∧ n ≤ 1000 ∧
  ∀ (p : Addr) (H' : Hp), H p = none → Same H H' → WalkAt K CW H' p js (handsL n js) → Q (.ref p) H'
def spAheadIn (K : PySem.W.Frag) (C : Addr) : Sp := fun vs H Q _ => ∃ (a p : Addr) (n : Nat) (js : List Job) (t : Int) (r : List Int), vs = [.ref a, .int t, .ref p] ∧ LotAt K C H a n js ∧ Good 16 js ∧ js.length ≤ 6 ∧ SqT K H p (r.map V.int) ∧ r.length = js.length ∧
  ∀ H', Same H H' → Q (.int (aheadN js t r : Int)) H'
def spCheckStanding (K : PySem.W.Frag) (C : Addr) : Sp := fun vs H Q _ => ∃ (a p : Addr) (n : Nat) (js : List Job) (t : Int) (r : List Int), vs = [.ref a, .int t, .ref p] ∧ LotAt K C H a n js ∧ Good 16 js ∧ js.length ≤ 6 ∧ SqT K H p (r.map V.int) ∧ r ∈ rowsR js t ∧
  ∀ H', Same H H' → Q .non H'
def spAliveL (K : PySem.W.Frag) (C : Addr) : Sp := fun vs H Q _ => ∃ (a : Addr) (n : Nat) (js : List Job) (t : Int), vs = [.ref a, .int t] ∧ LotAt K C H a n js ∧ Good 16 js ∧ js.length ≤ 6 ∧ n ≤ 1000 ∧ spanN js ≤ 720 ∧ 0 ≤ t ∧ t ≤ 10 ^ 30 ∧
  ∀ (p : Addr) (H' : Hp), H p = none → Same H H' → Dp K H' (.ref p) (.tuple ((aliveR js n t).map rowD)) → Q (.ref p) H'
def spChoicesL (K : PySem.W.Frag) (C : Addr) : Sp := fun vs H Q _ => ∃ (a p : Addr) (n : Nat) (js : List Job) (t : Int) (r : List Int), vs = [.ref a, .int t, .ref p] ∧ LotAt K C H a n js ∧ Good 16 js ∧ js.length ≤ 6 ∧ n ≤ 1000 ∧ spanN js ≤ 720 ∧ 0 ≤ t ∧ t ≤ 10 ^ 30 ∧ SqT K H p (r.map V.int) ∧ r ∈ rowsR js t ∧
  ∀ (q : Addr) (rows2 : List (List Int)) (H' : Hp), SrtO.Srtd HT.lexLt rows2 → SrtO.Stb HT.lexLt rows2 (crewRows (choicesN js (handsL n js) (t % (spanN js : Int)).toNat (aheadN js t r))) → H q = none → Same H H' → Dp K H' (.ref q) (.tuple (rows2.map rowD)) → Q (.ref q) H'
/-! ## rows -/
theorem picks_memF : ∀ (os : List (List Int)) (rows : List (List Int)) (r : List Int), r ∈ os.foldl growR rows → ∃ r0 s, r0 ∈ rows ∧ r = r0 ++ s ∧ s.length = os.length ∧ ∀ (k : Nat) (x : Int) (o : List Int), s[k]? = some x → os[k]? = some o → x ∈ o
  | [], rows, r, h => ⟨r, [], h, by simp, rfl, fun k x o h => by cases h⟩
  | o :: os, rows, r, h => by
    obtain ⟨r0, s, h1, rfl, h2, h3⟩ := picks_memF os (growR rows o) r h
    unfold growR at h1
    obtain ⟨r1, g1, g2⟩ := List.mem_flatMap.mp h1
    obtain ⟨m, hm, rfl⟩ := List.mem_map.mp g2
    refine ⟨r1, m :: s, g1, by simp, by rw [List.length_cons, List.length_cons, h2], fun k x o' e1 e2 => ?_⟩
    cases k with
    | zero => cases e1; cases e2; exact hm
    | succ k => exact h3 k x o' e1 e2
theorem rows_mem {js : List Job} {t : Int} {r : List Int} (G : Good 16 js) (h : r ∈ rowsR js t) : r.length = js.length ∧ ∀ (k : Nat) (j : Job) (x : Int), js[k]? = some j → r[k]? = some x → lowI j.2.1 j.2.2 t ≤ x ∧ x ≤ highI j.2.1 j.2.2 t := by
  obtain ⟨r0, s, h1, rfl, h2, h3⟩ := picks_memF _ _ _ h
  have e0 : r0 = [] := by simpa using h1
  subst e0
  have eo : (optsR js t).length = js.length := List.length_map _
  refine ⟨by rw [List.nil_append, h2, eo], fun k j x e1 e2 => ?_⟩
  have m := h3 k x (keptL j.2.1 j.2.2 t) e2 (by unfold optsR; rw [List.getElem?_map, e1]; rfl)
  obtain ⟨g1, g2, _⟩ := G.part j (List.mem_of_getElem? e1)
  have hp : 0 < j.2.2 := by omega
  have hh := high_eq (e := j.2.1) (t := t) hp
  unfold keptL at m
  by_cases c : t * (j.2.1 : Int) % (j.2.2 : Int) = 0
  · rw [if_pos c] at m hh
    have : x = lowI j.2.1 j.2.2 t := by simpa using m
    omega
  · rw [if_neg c] at m hh
    have : x = lowI j.2.1 j.2.2 t ∨ x = lowI j.2.1 j.2.2 t + 1 := by simpa using m
    omega
/-! ## the crews of a choice: only the first may be empty -/
theorem subs_head : ∀ n, ∀ w ∈ subsN n, ∃ w', w = 0 :: w' ∧ ∀ p ∈ w', 0 < p
  | 0, w, h => by
    have e : w = [0] := by simpa [subsN] using h
    exact ⟨[], e, by simp⟩
  | n + 1, w, h => by
    rcases List.mem_append.mp h with h | h
    · exact subs_head n w h
    · obtain ⟨u, hu, rfl⟩ := List.mem_map.mp h
      obtain ⟨u', rfl, hp⟩ := subs_head n u hu
      refine ⟨u' ++ (0 :: u').map (· + 2 ^ n), by simp, fun p hp2 => ?_⟩
      rcases List.mem_append.mp hp2 with h | h
      · exact hp p h
      · obtain ⟨q, _, rfl⟩ := List.mem_map.mp h
        have := Nat.two_pow_pos n
        omega
theorem tail_pos {f : Nat → Bool} : ∀ {l : List Nat}, (∀ c ∈ l.tail, 0 < c) → ∀ c ∈ (l.filter f).tail, 0 < c
  | [], _, c, h => by cases h
  | x :: l, g, c, h => by
    rw [List.filter_cons] at h
    split at h
    · exact g c (List.mem_filter.mp h).1
    · exact g c (List.mem_filter.mp (List.mem_of_mem_tail h)).1
theorem crews_tail {js : List Job} {hs : List Nat} {m a : Nat} : ∀ c ∈ (crewsN js hs m a).tail, 0 < c := fun c hc => by
  unfold crewsN at hc
  rw [tail_map] at hc
  obtain ⟨p, hp, rfl⟩ := List.mem_map.mp hc
  have hl : needN (doubN js (m + 1)) (xorN (growN js m) a) < (subsN js.length).length := by
    rw [subs_len]
    exact Nat.lt_of_le_of_lt (need_le _ _) (doub_lt js (m + 1))
  rw [show (subsN js.length).getD (needN (doubN js (m + 1)) (xorN (growN js m) a)) [] = (subsN js.length)[needN (doubN js (m + 1)) (xorN (growN js m) a)] by rw [List.getD_eq_getElem?_getD, List.getElem?_eq_getElem hl]; rfl] at hp
  obtain ⟨w', e, hw⟩ := subs_head js.length _ (List.getElem_mem hl)
  have := tail_pos (l := (subsN js.length)[needN (doubN js (m + 1)) (xorN (growN js m) a)]) (by rw [e]; exact hw) p hp
  omega
theorem choices_tail {js : List Job} {hs : List Nat} {m a : Nat} : ∀ c ∈ (choicesN js hs m a).tail, 0 < c := fun c hc => tail_pos crews_tail c hc
theorem choices_lt {js : List Job} {hs : List Nat} {m a : Nat} (l6 : js.length ≤ 6) : ∀ c ∈ choicesN js hs m a, c < 128 := fun c hc => by
  have h := (crews_in c (List.mem_filter.mp hc).1).2
  have : 2 ^ js.length ≤ 2 ^ 6 := Nat.pow_le_pow_right (by decide) l6
  omega
theorem members_pos {c : Nat} (h0 : 0 < c) (h : c < 128) : 1 ≤ (membersN c).length := by
  have go : ∀ c : Fin 128, 0 < c.val → 1 ≤ (membersN c.val).length := by decide +kernel
  exact go ⟨c, h⟩ h0
end Ts
namespace Ts
open PySem PySem.Spec PyProof.Rows L2
/-! ## rounds later -/
/-! ## which rows there are -/
def Each : List Int → List (List Int) → Prop
  | [], [] => True
  | m :: r, o :: os => m ∈ o ∧ Each r os
  | _, _ => False
theorem mem_grown : ∀ (os rows : List (List Int)) (r : List Int), r ∈ os.foldl growR rows ↔ ∃ r0 ∈ rows, ∃ r1, Each r1 os ∧ r = r0 ++ r1
  | [], rows, r => by
    constructor
    · intro h; exact ⟨r, h, [], trivial, by simp⟩
    · rintro ⟨r0, h, r1, h1, rfl⟩
      cases r1 with
      | nil => rw [List.append_nil]; exact h
      | cons m r1 => exact h1.elim
  | o :: os, rows, r => by
    rw [List.foldl_cons, mem_grown os (growR rows o) r]
    constructor
    · rintro ⟨r0, h0, r1, h1, rfl⟩
      unfold growR at h0
      obtain ⟨r2, g1, g2⟩ := List.mem_flatMap.mp h0
      obtain ⟨m, hm, rfl⟩ := List.mem_map.mp g2
      exact ⟨r2, g1, m :: r1, ⟨hm, h1⟩, by simp⟩
    · rintro ⟨r0, h0, r1, h1, rfl⟩
      cases r1 with
      | nil => exact h1.elim
      | cons m r1 => exact ⟨r0 ++ [m], List.mem_flatMap.mpr ⟨r0, h0, List.mem_map.mpr ⟨m, h1.1, rfl⟩⟩, r1, h1.2, by simp⟩
theorem mem_picks {os : List (List Int)} {r : List Int} : r ∈ picksR os ↔ Each r os := by
  unfold picksR
  rw [mem_grown]
  constructor
  · rintro ⟨r0, h0, r1, h1, rfl⟩
    rw [List.mem_singleton.mp h0]; exact h1
  · intro h; exact ⟨[], List.mem_singleton.mpr rfl, r, h, rfl⟩
/-! ## lists in their order that have the same rows -/
/-! ## turned about, and one fewer -/
end Ts
namespace Ts
open PySem PySem.Spec PyProof.Rows L2 L2H LamX
/-! ## a lot, or a thing that is none -/
def spNoLot (K : PySem.W.Frag) (C : Addr) : Sp := fun vs H Q _ => ∃ (b x : Addr) (n : Nat) (js : List Job), vs = [.ref b, .ref x] ∧ Bas H b ∧ LotAt K C (hid b H) x n js ∧ Good 16 js ∧ js.length ≤ 6 ∧ n ≤ 6 ∧
  ∀ (v : V) (o : Option (Nat × List Job)) (sh : Str) (H' : Hp), But b H H' → Bas H' b → LotOr K C (hid b H') v o → ShC K C (hid b H') v sh → PyData.strOk sh = true → (∀ p, o = some p → p = (n, js)) → Q v H'
end Ts
namespace Ts
open PySem PySem.Spec PyProof.Rows L2 L2H LamX
/-! ## a value that is a standing -/
def inLH (t : Int) : List Job → List PyData → Bool
  | [], [] => true
  | j :: js, d :: ds => inRg (kindD d) (lowI j.2.1 j.2.2 t) (highI j.2.1 j.2.2 t) && inLH t js ds
  | _, _ => false
def stB (js : List Job) (t : Int) : Option PyData → Bool
  | some (.tuple ds) => inLH t js ds
  | _ => false
theorem inLH_len {t : Int} : ∀ {js : List Job} {ds : List PyData}, inLH t js ds = true → ds.length = js.length
  | [], [], _ => rfl
  | j :: js, d :: ds, h => by
    have h2 : inLH t js ds = true := by
      have : (_ && inLH t js ds) = true := h
      exact (Bool.and_eq_true_iff.mp this).2
    rw [List.length_cons, List.length_cons, inLH_len h2]
  | [], _ :: _, h => by cases h
  | _ :: _, [], h => by cases h
theorem keptL_iff {e p : Nat} {t m : Int} (hp : 0 < p) : m ∈ keptL e p t ↔ lowI e p t ≤ m ∧ m ≤ highI e p t := by
  have hh := high_eq (e := e) (t := t) hp
  unfold keptL
  by_cases c : t * (e : Int) % (p : Int) = 0
  · rw [if_pos c] at hh ⊢
    rw [List.mem_singleton]
    omega
  · rw [if_neg c] at hh ⊢
    simp only [List.mem_cons, List.not_mem_nil, or_false]
    omega
theorem inLH_row {t : Int} : ∀ {js : List Job} {ds : List PyData}, (∀ j ∈ js, 0 < j.2.2) → inLH t js ds = true → ∃ r : List Int, ds = r.map PyData.int ∧ Each r (optsR js t)
  | [], [], _, _ => ⟨[], rfl, trivial⟩
  | j :: js, d :: ds, hp, h => by
    have h' : (inRg (kindD d) (lowI j.2.1 j.2.2 t) (highI j.2.1 j.2.2 t) && inLH t js ds) = true := h
    obtain ⟨h1, h2⟩ := Bool.and_eq_true_iff.mp h'
    obtain ⟨r, rfl, hr⟩ := inLH_row (fun j hj => hp j (List.mem_cons_of_mem _ hj)) h2
    obtain ⟨i, hi, i1, i2⟩ := inRg_is h1
    have : d = .int i := by
      cases d with
      | int k => cases hi; rfl
      | _ => cases hi
    exact ⟨i :: r, by rw [this]; rfl, (keptL_iff (hp j List.mem_cons_self)).mpr ⟨i1, i2⟩, hr⟩
  | [], _ :: _, _, h => by cases h
  | _ :: _, [], _, h => by cases h
theorem stB_row {js : List Job} {t : Int} {o : Option PyData} (G : Good 16 js) (h : stB js t o = true) : ∃ r : List Int, o = some (rowD r) ∧ r ∈ rowsR js t := by
  unfold stB at h
  split at h
  · rename_i ds
    obtain ⟨r, rfl, hr⟩ := inLH_row (fun j hj => by obtain ⟨g1, g2, _⟩ := G.part j hj; omega) h
    exact ⟨r, rfl, mem_picks.mpr hr⟩
  · cases h
theorem inLH_drop {t : Int} : ∀ {i : Nat} {js : List Job} {ds : List PyData} {j : Job} {d : PyData}, js[i]? = some j → ds[i]? = some d → inLH t (js.drop i) (ds.drop i) = (inRg (kindD d) (lowI j.2.1 j.2.2 t) (highI j.2.1 j.2.2 t) && inLH t (js.drop (i + 1)) (ds.drop (i + 1))) := by
  intro i js ds j d h1 h2
  obtain ⟨l1, e1⟩ := List.getElem?_eq_some_iff.mp h1
  obtain ⟨l2, e2⟩ := List.getElem?_eq_some_iff.mp h2
  rw [List.drop_eq_getElem_cons l1, List.drop_eq_getElem_cons l2, e1, e2]
  rfl
/-! ## what refuses -/
def spCheckRoundX (K : PySem.W.Frag) (C CY : Addr) : Sp := fun vs H Q E => ∃ (a : Addr) (n : Nat) (js : List Job), vs = [.ref a] ∧ LotAt K C H a n js ∧ (spanN js ≤ 720 → Q .non H) ∧ (720 < spanN js → Raise1 CY "limit" (.int 720) H E)
def spCheckStandingX (K : PySem.W.Frag) (C CS : Addr) : Sp := fun vs H Q E => ∃ (a : Addr) (n : Nat) (js : List Job) (t : Int) (v : V) (o : Option PyData), vs = [.ref a, .int t, v] ∧ LotAt K C H a n js ∧ Good 16 js ∧ js.length ≤ 6 ∧ AnyV K H v o ∧
  (stB js t o = true → ∀ H', Same H H' → Q .non H') ∧ (stB js t o = false → Raise1 CS "given" v H E)
/-- what is asked by a lot and a moment, given anything -/
def spTwoX (K : PySem.W.Frag) (C CL CN CY : Addr) (sp0 : Sp) : Sp := fun vs H Q E => ∃ (v t : V) (o : Option (Nat × List Job)) (k : Option Int), vs = [v, t] ∧ LotOr K C H v o ∧ KindV K H t k ∧
  (o = none → Raise1 CL "given" v H E) ∧ (∀ n js, o = some (n, js) → inRg k 0 (10 ^ 30) = false → Raise1 CN "given" t H E) ∧ (∀ n js, o = some (n, js) → inRg k 0 (10 ^ 30) = true → 720 < spanN js → Raise1 CY "limit" (.int 720) H E) ∧
  ∀ n js, o = some (n, js) → inRg k 0 (10 ^ 30) = true → spanN js ≤ 720 → ∀ E0 : XK, sp0 vs H Q E0
/-- .. and a standing -/
def spChoicesX (K : PySem.W.Frag) (C CL CN CS CY : Addr) (sp0 : Sp) : Sp := fun vs H Q E => ∃ (v t u : V) (o : Option (Nat × List Job)) (k : Option Int) (r : Option PyData), vs = [v, t, u] ∧ LotOr K C H v o ∧ KindV K H t k ∧ AnyV K H u r ∧ (∀ n js, o = some (n, js) → Good 16 js ∧ js.length ≤ 6) ∧
  (o = none → Raise1 CL "given" v H E) ∧ (∀ n js, o = some (n, js) → inRg k 0 (10 ^ 30) = false → Raise1 CN "given" t H E) ∧ (∀ n js z, o = some (n, js) → k = some z → inRg k 0 (10 ^ 30) = true → stB js z r = false → Raise1 CS "given" u H E) ∧
  (∀ n js z, o = some (n, js) → k = some z → inRg k 0 (10 ^ 30) = true → stB js z r = true → 720 < spanN js → ∀ H', Same H H' → Raise1 CY "limit" (.int 720) H' E) ∧
  ∀ n js z, o = some (n, js) → k = some z → inRg k 0 (10 ^ 30) = true → stB js z r = true → spanN js ≤ 720 → ∀ E0 : XK, sp0 vs H Q E0
/-! ## what is due -/
def dueM (o : Option (Nat × List Job)) (k : Option Int) (sv st : Str) : Option (Str × Str) := match o with
  | none => some ("lot", sv)
  | some _ => if inRg k 0 (10 ^ 30) = false then some ("number", st) else none
def dueR : Option (Nat × List Job) → Option (Str × Str)
  | none => none
  | some (_, js) => if 720 < spanN js then some ("many", "720") else none
def dueS (o : Option (Nat × List Job)) (k : Option Int) (r : Option PyData) (sv st sr : Str) : Option (Str × Str) := match dueM o k sv st with
  | some x => some x
  | none => match o, k with
    | some (_, js), some z => if stB js z r = false then some ("standing", sr) else none
    | _, _ => none
theorem dueM_ok {o : Option (Nat × List Job)} {k : Option Int} {sv st : Str} (h : PyData.strOk sv = true) (f : PyData.strOk st = true) : ∀ x, dueM o k sv st = some x → PyData.strOk x.1 = true ∧ PyData.strOk x.2 = true := fun x e => by
  have h1 : PyData.strOk ("lot" : Str) = true := by decide +kernel
  have h3 : PyData.strOk ("number" : Str) = true := by decide +kernel
  unfold dueM at e
  split at e
  · cases e; exact ⟨h1, h⟩
  · split at e
    · cases e; exact ⟨h3, f⟩
    · cases e
theorem dueR_ok {o : Option (Nat × List Job)} : ∀ x, dueR o = some x → PyData.strOk x.1 = true ∧ PyData.strOk x.2 = true := fun x e => by
  have h1 : PyData.strOk ("many" : Str) = true := by decide +kernel
  have h3 : PyData.strOk ("720" : Str) = true := by decide +kernel
  unfold dueR at e
  split at e
  · cases e
  · split at e
    · cases e; exact ⟨h1, h3⟩
    · cases e
theorem dueS_ok {o : Option (Nat × List Job)} {k : Option Int} {r : Option PyData} {sv st sr : Str} (h : PyData.strOk sv = true) (f : PyData.strOk st = true) (g : PyData.strOk sr = true) : ∀ x, dueS o k r sv st sr = some x → PyData.strOk x.1 = true ∧ PyData.strOk x.2 = true := fun x e => by
  have h3 : PyData.strOk ("standing" : Str) = true := by decide +kernel
  unfold dueS at e
  split at e
  · rename_i y hy
    cases e; exact dueM_ok h f _ hy
  · split at e
    · split at e
      · cases e; exact ⟨h3, g⟩
      · cases e
    · cases e
def orD : Option (Str × Str) → Option (Str × Str) → Option (Str × Str)
  | some x, _ => some x
  | none, y => y
theorem orD_ok {a b : Option (Str × Str)} (h : ∀ x, a = some x → PyData.strOk x.1 = true ∧ PyData.strOk x.2 = true) (g : ∀ x, b = some x → PyData.strOk x.1 = true ∧ PyData.strOk x.2 = true) : ∀ x, orD a b = some x → PyData.strOk x.1 = true ∧ PyData.strOk x.2 = true := fun x e => by
  cases a with
  | some y => exact h x e
  | none => exact g x e
section
variable {P : Program} {w : World} {K : PySem.W.Frag} {mg : Str → Option Value} {base : Heap} {hot : Bool} {c : Cls11} {b : Bas3} {C : Addr} {tl : XK → Hp → VK → Prop} {H : Hp} {Q : VK}
theorem many720 : (PyData.int 720).shown = ("720" : Str) := by decide +kernel
theorem sh720 {K : PySem.W.Frag} {C : Addr} {H : Hp} : ShC K C H (.int 720) "720" := .w (many720 ▸ .data (.int 720) (by decide +kernel) rfl (by decide) (by decide +kernel))
theorem tt_two (R : ReprR P w K mg base hot (ShC K C)) (EL : ErrI K c b c.l 5 "lot") (EN : ErrI K c b c.n 1 "number") (EY : ErrI K c b c.y 9 "many") {sp0 : Sp} {v t : V} {o : Option (Nat × List Job)} {q' : Option PyData} {sv st : Str}
    (hv : LotOr K C H v o) (hs : ShC K C H v sv) (ht : OddV K H t q' st)
    (h0 : ∀ n js, o = some (n, js) → inRg (q'.bind kindD) 0 (10 ^ 30) = true → spanN js ≤ 720 → ∀ (Q0 : VK) (E0 : XK), (∀ (x : V) (H' : Hp) (d : PyData), Same H H' → Dp K H' x d → Fine 60000 2 d → Q0 x H') → sp0 [v, t] H Q0 E0)
    (htl : ∀ E' Q', spTwoX K C c.l c.n c.y sp0 [v, t] H Q' E' → tl E' H Q') (q : ∀ (w : Str × Str) (l : Addr) (H2 : Hp), Same H H2 → Fits (orD (dueM o (q'.bind kindD) sv st) (dueR o)) w → H2 l = some (.lst [.str w.1, .str w.2]) → Q (.ref l) H2) : TTheard2 K c b (ShC K C) (ShC K C) tl H Q := by
  refine ⟨HeardE2 K c b (ShC K C) Q, HeardQ2 (ShC K C) Q, htl _ _ ⟨v, t, o, q'.bind kindD, rfl, hv, ht.av.kind, fun e => ?_, fun n js e e2 => ?_, fun n js e e2 e3 => ?_, fun n js e e2 e3 => ?_⟩, fun _ _ _ h => h, fun _ _ h => h⟩
  · subst e
    exact raise_heard2 R EL rfl hs fun l H2 s2 g => q ("lot", sv) l H2 s2 rfl g
  · subst e
    exact raise_heard2 R EN rfl (.w ht.sv) fun l H2 s2 g => q ("number", st) l H2 s2 (by unfold dueM; dsimp only; rw [if_pos e2]; rfl) g
  · subst e
    exact raise_heard2 R EY rfl sh720 fun l H2 s2 g => q ("many", "720") l H2 s2 (by unfold dueM dueR; dsimp only; rw [if_neg (by rw [e2]; decide), if_pos e3]; rfl) g
  · intro E0
    refine h0 n js e e2 e3 _ E0 fun x H' d s D f => ?_
    subst e
    obtain ⟨a1, a2, a3, a4⟩ := f.fits (by decide) (by decide)
    exact ⟨_, .w (.data D a1 a2 a3 a4), fun l H2 s2 g => q ("back", _) l H2 (s.trans s2) (by unfold dueM dueR; dsimp only; rw [if_neg (by rw [e2]; decide), if_neg (by omega)]; rfl) g⟩
theorem tt_choices (R : ReprR P w K mg base hot (ShC K C)) (EL : ErrI K c b c.l 5 "lot") (EN : ErrI K c b c.n 1 "number") (ES : ErrI K c b c.g 4 "standing") (EY : ErrI K c b c.y 9 "many") {sp0 : Sp} {v t u : V} {o : Option (Nat × List Job)} {q' r : Option PyData} {sv st sr : Str}
    (hv : LotOr K C H v o) (hG : ∀ n js, o = some (n, js) → Good 16 js ∧ js.length ≤ 6) (hs : ShC K C H v sv) (ht : OddV K H t q' st) (hu : AnyV K H u r) (hsu : ShC K C H u sr)
    (h0 : ∀ n js z, o = some (n, js) → q'.bind kindD = some z → 0 ≤ z → z ≤ 10 ^ 30 → stB js z r = true → spanN js ≤ 720 → ∀ (Q0 : VK) (E0 : XK), (∀ (x : V) (H' : Hp) (d : PyData), Same H H' → Dp K H' x d → Fine 100000 2 d → Q0 x H') → sp0 [v, t, u] H Q0 E0)
    (htl : ∀ E' Q', spChoicesX K C c.l c.n c.g c.y sp0 [v, t, u] H Q' E' → tl E' H Q') (q : ∀ (w : Str × Str) (l : Addr) (H2 : Hp), Same H H2 → Fits (orD (dueS o (q'.bind kindD) r sv st sr) (dueR o)) w → H2 l = some (.lst [.str w.1, .str w.2]) → Q (.ref l) H2) : TTheard2 K c b (ShC K C) (ShC K C) tl H Q := by
  refine ⟨HeardE2 K c b (ShC K C) Q, HeardQ2 (ShC K C) Q, htl _ _ ⟨v, t, u, o, q'.bind kindD, r, rfl, hv, ht.av.kind, hu, hG, fun e => ?_, fun n js e e2 => ?_, fun n js z e ez e2 e3 => ?_, fun n js z e ez e2 e3 e4 => ?_, fun n js z e ez e2 e3 e4 => ?_⟩, fun _ _ _ h => h, fun _ _ h => h⟩
  · subst e
    exact raise_heard2 R EL rfl hs fun l H2 s2 g => q ("lot", sv) l H2 s2 rfl g
  · subst e
    exact raise_heard2 R EN rfl (.w ht.sv) fun l H2 s2 g => q ("number", st) l H2 s2 (by unfold dueS dueM; dsimp only; rw [if_pos e2]; rfl) g
  · subst e
    rw [ez] at q e2
    exact raise_heard2 R ES rfl hsu fun l H2 s2 g => q ("standing", sr) l H2 s2 (by unfold dueS dueM; dsimp only; rw [if_neg (by rw [e2]; decide)]; dsimp only; rw [if_pos e3]; rfl) g
  · subst e
    rw [ez] at q e2
    intro H' s'
    exact raise_heard2 R EY rfl sh720 fun l H2 s2 g => q ("many", "720") l H2 (s'.trans s2) (by unfold dueS dueM dueR; dsimp only; rw [if_neg (by rw [e2]; decide)]; dsimp only; rw [if_neg (by rw [e3]; decide), if_pos e4]; rfl) g
  · intro E0
    obtain ⟨z1, hz, z2, z3⟩ := inRg_is e2
    rw [ez] at hz
    cases hz
    refine h0 n js z e ez z2 z3 e3 e4 _ E0 fun x H' d s D f => ?_
    subst e
    rw [ez] at q e2
    obtain ⟨a1, a2, a3, a4⟩ := f.fits (by decide) (by decide)
    exact ⟨_, .w (.data D a1 a2 a3 a4), fun l H2 s2 g => q ("back", _) l H2 (s.trans s2) (by unfold dueS dueM dueR; dsimp only; rw [if_neg (by rw [e2]; decide)]; dsimp only; rw [if_neg (by rw [e3]; decide), if_neg (by omega)]; rfl) g⟩
end
end Ts
namespace Ts
open PySem PySem.Spec PyProof.Rows L2 L2H LamX
/-! ## data of which the text is sound -/
structure OkF (w e : Nat) (d : PyData) : Prop where
  f : Fine w e d
  ok : PyData.strOk d.shown = true
theorem OkF.mono {w w' e e' : Nat} {d : PyData} (h : OkF w e d) (h1 : w ≤ w') (h2 : e ≤ e') : OkF w' e' d := ⟨h.f.mono h1 h2, h.ok⟩
theorem okf_int {e : Nat} {i : Int} (h0 : -1 ≤ i) (h1 : i < 10 ^ 40) : OkF 140 e (.int i) := by
  by_cases z : i = -1
  · subst z
    exact ⟨⟨by decide +kernel, by decide +kernel, by show (if ((-1 : Int) == 0) = true then 0 else (-1 : Int).natAbs.log2 + 1) ≤ 140; decide +kernel, Nat.zero_le _, rfl⟩, by decide +kernel⟩
  · obtain ⟨n, rfl⟩ := Int.eq_ofNat_of_zero_le (show 0 ≤ i by omega)
    refine ⟨fine_int (by omega) h1, ?_⟩
    have e : (PyData.int ((n : Nat) : Int)).shown = numS n := rfl
    rw [e]
    exact plain_ok (plain_num n)
theorem okf_none {e : Nat} : OkF 0 e .none := ⟨fine_none, by decide +kernel⟩
theorem okf_bool {e : Nat} {b : Bool} : OkF 0 e (.bool b) := ⟨fine_bool, by cases b <;> decide +kernel⟩
theorem okf_str {e : Nat} {x : Str} (h : Plain x) (hl : x.length ≤ 140) : OkF 140 e (.str x) := ⟨⟨rfl, short_str h, hl, Nat.zero_le _, rfl⟩, text_ok h⟩
theorem okf_num {e : Nat} {m : Int} (h0 : 0 ≤ m) (h1 : m < 10 ^ 40) : OkF 140 e (.str (Str.ofString (toString m))) := by
  obtain ⟨n, rfl⟩ := Int.eq_ofNat_of_zero_le h0
  refine okf_str (plain_num n) ?_
  have := (int_big h0 h1).2
  have e : (PyData.int ((n : Nat) : Int)).shown = numS n := rfl
  rw [e] at this
  show (numS n).length ≤ 140
  omega
theorem ok_joinR {S : Str} (hS : PyData.strOk S = true) : ∀ ts : List Str, (∀ t ∈ ts, PyData.strOk t = true) → PyData.strOk (Str.join S ts) = true := fun ts h => by
  unfold PyData.strOk
  rw [← Array.all_toList]
  refine List.all_eq_true.mpr fun c hc => decide_eq_true ?_
  have hc' : c ∈ TL.tl (Str.join S ts) := hc
  rw [TL.tl_join] at hc'
  have sm : ∀ {t : Str}, PyData.strOk t = true → ∀ c ∈ TL.tl t, c < 0x110000 := fun ht c hc => strOk_all ht c hc
  rcases mem_joinL hc' with h2 | ⟨u, hu, h2⟩
  · exact sm hS c h2
  · obtain ⟨t, ht, rfl⟩ := List.mem_map.mp hu
    exact sm (h t ht) c h2
theorem ok_from : ∀ (ts : List Str) (k : Nat) (acc : Str), PyData.strOk acc = true → (∀ t ∈ ts, PyData.strOk t = true) → PyData.strOk (textFrom k acc ts) = true
  | [], _, _, h, _ => h
  | t :: ts, k, acc, h, g => by
    show PyData.strOk (textFrom (k + 1) (acc ++ (if k > 0 then ", " else "" : String) ++ t) ts) = true
    refine ok_from ts _ _ (strOk_app (strOk_app h ?_) (g t List.mem_cons_self)) fun u hu => g u (List.mem_cons_of_mem _ hu)
    split <;> decide +kernel
theorem shownAll_ok {w e : Nat} {ds : List PyData} (h : ∀ d ∈ ds, OkF w e d) : ∀ t ∈ PyData.shownAll ds, PyData.strOk t = true := fun t ht => by
  rw [shownAll_eq_map] at ht
  obtain ⟨d, hd, rfl⟩ := List.mem_map.mp ht
  exact (h d hd).ok
theorem okf_tup {w e : Nat} {ds : List PyData} (h : ∀ d ∈ ds, OkF w e d) : OkF ((w + 1) * ds.length) (e + 1) (.tuple ds) := by
  refine ⟨(fine_all fun d hd => (h d hd).f).tup, ?_⟩
  have e : (PyData.tuple ds).shown = tupleText (PyData.shownAll ds) := by simp only [PyData.shown]
  rw [e]
  unfold tupleText
  refine strOk_app (strOk_app (by decide +kernel) (ok_joinR (by decide +kernel) _ (shownAll_ok h))) ?_
  split <;> decide +kernel
theorem okf_lst {w e : Nat} {ds : List PyData} (h : ∀ d ∈ ds, OkF w e d) : OkF ((w + 1) * ds.length) (e + 1) (.list ds) := by
  refine ⟨(fine_all fun d hd => (h d hd).f).lst, ?_⟩
  have e : (PyData.list ds).shown = listText (PyData.shownAll ds) := by simp only [PyData.shown]
  rw [e]
  unfold listText
  exact strOk_app (ok_from _ _ _ (by decide +kernel) (shownAll_ok h)) (by decide +kernel)
theorem OkF.odd {K : PySem.W.Frag} {H : Hp} {v : V} {w e : Nat} {d : PyData} (f : OkF w e d) (h : Dp K H v d) (hw : w ≤ 300000) (he : e < 60) (hs : shortV (some d)) : OddV K H v (some d) d.shown := by
  obtain ⟨a, b, c, g⟩ := f.f.fits hw he
  exact OddV.of h a b c g f.ok hs
theorem okf_ints {l : List Int} (h : ∀ i ∈ l, -1 ≤ i ∧ i < 10 ^ 40) : ∀ d ∈ l.map PyData.int, OkF 140 0 d := fun d hd => by
  obtain ⟨i, hi, rfl⟩ := List.mem_map.mp hd
  exact okf_int (h i hi).1 (h i hi).2
theorem OddV.ints {K : PySem.W.Frag} {H : Hp} {q : Addr} {l : List Int} (h : SqT K H q (l.map V.int)) (hl : l.length ≤ 100) (hr : ∀ i ∈ l, -1 ≤ i ∧ i < 10 ^ 40) : OddV K H (.ref q) (some (rowD l)) (rowD l).shown :=
  (okf_tup (okf_ints hr)).odd (.tup h (.ints l)) (by rw [List.length_map]; omega) (by decide) (show (l.map PyData.int).length ≤ 100 by rw [List.length_map]; exact hl)
theorem OddV.intsL {K : PySem.W.Frag} {H : Hp} {q : Addr} {l : List Int} (h : SqL K H q (l.map V.int)) (hl : l.length ≤ 100) (hr : ∀ i ∈ l, -1 ≤ i ∧ i < 10 ^ 40) : OddV K H (.ref q) (some (optD l)) (optD l).shown :=
  (okf_lst (okf_ints hr)).odd (.lst h (.ints l)) (by rw [List.length_map]; omega) (by decide) trivial
/-- a row with one odd place -/
theorem OddV.mix {K : PySem.W.Frag} {H : Hp} {q : Addr} {l m : List Int} {v : V} {d : PyData} (h : SqT K H q (l.map V.int ++ [v] ++ m.map V.int)) (hd : Dp K H v d) (f : OkF 200 1 d) (hl : l.length + m.length ≤ 50) (hr : ∀ i ∈ l, -1 ≤ i ∧ i < 10 ^ 40) (hm : ∀ i ∈ m, -1 ≤ i ∧ i < 10 ^ 40) :
    OddV K H (.ref q) (some (.tuple (l.map PyData.int ++ [d] ++ m.map PyData.int))) (PyData.tuple (l.map PyData.int ++ [d] ++ m.map PyData.int)).shown := by
  have len : (l.map PyData.int ++ [d] ++ m.map PyData.int).length ≤ 51 := by
    rw [List.length_append, List.length_append, List.length_map, List.length_map]
    show l.length + 1 + m.length ≤ 51
    omega
  refine (okf_tup (w := 200) (e := 1) fun x hx => ?_).odd (.tup h ((DpAll.ints l).append (.cons hd .nil) |>.append (DpAll.ints m))) (by omega) (by decide) (show _ ≤ 100 by omega)
  rcases List.mem_append.mp hx with z | z
  · rcases List.mem_append.mp z with z | z
    · exact (okf_ints hr x z).mono (by decide) (by decide)
    · rw [List.mem_singleton.mp z]; exact f
  · exact (okf_ints hm x z).mono (by decide) (by decide)
theorem inV_ints (m : Int) (ms : List Int) : inV (.int m) (ms.map V.int) = decide (m ∈ ms) := by
  unfold inV
  rw [Bool.eq_iff_iff, List.any_map]
  simp only [List.any_eq_true, Function.comp, eqV, beq_iff_eq, decide_eq_true_eq]
  constructor
  · rintro ⟨x, h, e⟩; rw [← e]; exact h
  · intro h; exact ⟨m, h, rfl⟩
/-! ## a row that may be odd, and the law's own look at it -/
def spRowK (K : PySem.W.Frag) : Sp := fun vs H Q _ => ∃ (b p : Addr) (js : List Job) (t : Int), vs = [.ref b, .ref p, .int t] ∧ Bas H b ∧ Dp K (hid b H) (.ref p) (jobsD js) ∧ Good 16 js ∧ 0 < js.length ∧ js.length ≤ 6 ∧ 0 ≤ t ∧ t ≤ 10 ^ 30 ∧
  ∀ (v : V) (o : Option PyData) (sh : Str) (H' : Hp), But b H H' → Bas H' b → OddV K (hid b H') v o sh → Q v H'
def spIsRowK (K : PySem.W.Frag) : Sp := fun vs H Q _ => ∃ (p : Addr) (js : List Job) (t : Int) (v : V) (o : Option PyData), vs = [.ref p, .int t, v] ∧ Dp K H (.ref p) (jobsD js) ∧ Good 16 js ∧ js.length ≤ 6 ∧ 0 ≤ t ∧ t ≤ 10 ^ 30 ∧ AnyV K H v o ∧
  ∀ H', Same H H' → Q (.bl (stB js t o)) H'
/-! ## what is right comes back -/
section
variable {K : PySem.W.Frag} {C : Addr} {H : Hp} {v t u : V} {o : Option (Nat × List Job)} {q' r : Option PyData} {st : Str}
theorem two_is {n : Nat} {js : List Job} (hv : LotOr K C H v (some (n, js))) (ht : OddV K H t q' st) (e3 : inRg (q'.bind kindD) 0 (10 ^ 30) = true) : ∃ (a : Addr) (z : Int), v = .ref a ∧ t = .int z ∧ q'.bind kindD = some z ∧ LotAt K C H a n js ∧ 0 ≤ z ∧ z ≤ 10 ^ 30 := by
  obtain ⟨a, rfl, L⟩ := hv
  have hk := ht.av.kind
  obtain ⟨z, ez, z1, z2⟩ := inRg_is e3
  rw [ez] at hk
  have hk' : t = .int z := hk
  exact ⟨a, z, rfl, hk', ez, L, z1, z2⟩
theorem succ_stand (hv : LotOr K C H v o) (hG : ∀ n js, o = some (n, js) → Good 16 js ∧ js.length ≤ 6 ∧ n ≤ 6) (ht : OddV K H t q' st) :
    ∀ n js, o = some (n, js) → inRg (q'.bind kindD) 0 (10 ^ 30) = true → spanN js ≤ 720 → ∀ (Q0 : VK) (E0 : XK), (∀ (x : V) (H' : Hp) (d : PyData), Same H H' → Dp K H' x d → Fine 60000 2 d → Q0 x H') → spStandings K C [v, t] H Q0 E0 := by
  rintro n js rfl e3 es Q0 E0 hq
  obtain ⟨G, l6, n6⟩ := hG n js rfl
  obtain ⟨a, z, rfl, rfl, ez, L, z1, z2⟩ := two_is hv ht e3
  have h31 : (10 : Int) ^ 30 ≤ 10 ^ 31 := by decide
  exact ⟨a, n, js, z, rfl, L, G, l6, es, z1, z2, fun p H' hn s D => hq _ _ _ s D (rows_fine G l6 z1 (by omega))⟩
theorem succ_alive (hv : LotOr K C H v o) (hG : ∀ n js, o = some (n, js) → Good 16 js ∧ js.length ≤ 6 ∧ n ≤ 6) (ht : OddV K H t q' st) :
    ∀ n js, o = some (n, js) → inRg (q'.bind kindD) 0 (10 ^ 30) = true → spanN js ≤ 720 → ∀ (Q0 : VK) (E0 : XK), (∀ (x : V) (H' : Hp) (d : PyData), Same H H' → Dp K H' x d → Fine 60000 2 d → Q0 x H') → spAliveL K C [v, t] H Q0 E0 := by
  rintro n js rfl e3 es Q0 E0 hq
  obtain ⟨G, l6, n6⟩ := hG n js rfl
  obtain ⟨a, z, rfl, rfl, ez, L, z1, z2⟩ := two_is hv ht e3
  refine ⟨a, n, js, z, rfl, L, G, l6, by omega, es, z1, z2, fun p H' hn s D => hq _ _ _ s D ?_⟩
  have sub : ∀ x ∈ aliveR js n z, x ∈ rowsR js z := fun x hx => (List.mem_filter.mp hx).1
  refine fine_rows (Nat.le_trans (Nat.le_trans (List.length_filter_le _ _) rows_len) (Nat.pow_le_pow_right (n := 2) (by decide) l6)) (fun x hx => by rw [rows_each x (sub x hx)]; exact l6) fun x hx i hi => ?_
  obtain ⟨a1, a2⟩ := rows_range G z1 x (sub x hx) i hi
  exact ⟨a1, by have : (10 : Int) ^ 30 + 1 < 10 ^ 40 := by decide
                omega⟩
theorem members_small {c : Nat} (h : c < 128) : (membersN c).length ≤ 7 ∧ ∀ m ∈ membersN c, m < 7 := by
  have go : ∀ c : Fin 128, ((membersN c.val).length ≤ 7 ∧ ((membersN c.val).all fun m => decide (m < 7)) = true) := by decide +kernel
  obtain ⟨a, b⟩ := go ⟨c, h⟩
  exact ⟨a, fun m hm => of_decide_eq_true (List.all_eq_true.mp b m hm)⟩
theorem fine_crews {js : List Job} {hs : List Nat} {m a : Nat} {rows2 : List (List Int)} (l6 : js.length ≤ 6) (b : SrtO.Stb HT.lexLt rows2 (crewRows (choicesN js hs m a))) : Fine 100000 2 (.tuple (rows2.map rowD)) := by
  have len : rows2.length ≤ 64 := by
    rw [b.perm.length_eq]
    unfold crewRows
    rw [List.length_map]
    exact Nat.le_trans (List.length_filter_le _ _) (crews_len l6)
  have f := fine_all (ds := rows2.map rowD) (w := 987) (e := 1) fun d hd => by
    obtain ⟨r, hr, rfl⟩ := List.mem_map.mp hd
    have hr2 := b.perm.mem_iff.mp hr
    unfold crewRows at hr2
    obtain ⟨c, hc, rfl⟩ := List.mem_map.mp hr2
    obtain ⟨m1, m2⟩ := members_small (choices_lt l6 c hc)
    refine (fine_ints (l := (membersN c).map fun m : Nat => (m : Int)) fun i hi => ?_).tup.mono (by rw [List.length_map]; omega) (Nat.le_refl _)
    obtain ⟨y, hy, rfl⟩ := List.mem_map.mp hi
    have := m2 y hy
    exact ⟨by omega, Int.lt_of_lt_of_le (show (y : Int) < 7 by omega) (by decide)⟩
  rw [List.length_map] at f
  exact f.tup.mono (by omega) (Nat.le_refl _)
theorem dpa_int_eq {K : PySem.W.Frag} {H : Hp} : ∀ {xs : List V} {l : List Int}, DpAll K H xs (l.map PyData.int) → xs = l.map V.int
  | _, [], .nil => rfl
  | _, i :: l, .cons h t => by
    cases h.int_eq
    rw [dpa_int_eq t]; rfl
theorem succ_choices (hv : LotOr K C H v o) (hG : ∀ n js, o = some (n, js) → Good 16 js ∧ js.length ≤ 6 ∧ n ≤ 6) (ht : OddV K H t q' st) (hu : AnyV K H u r) :
    ∀ n js z, o = some (n, js) → q'.bind kindD = some z → 0 ≤ z → z ≤ 10 ^ 30 → stB js z r = true → spanN js ≤ 720 → ∀ (Q0 : VK) (E0 : XK), (∀ (x : V) (H' : Hp) (d : PyData), Same H H' → Dp K H' x d → Fine 100000 2 d → Q0 x H') → spChoicesL K C [v, t, u] H Q0 E0 := by
  rintro n js z rfl ez z1 z2 e3 es Q0 E0 hq
  obtain ⟨G, l6, n6⟩ := hG n js rfl
  obtain ⟨a, rfl, L⟩ := hv
  have hk := ht.av.kind
  rw [ez] at hk
  cases (show t = .int z from hk)
  obtain ⟨l, rfl, hl⟩ := stB_row G e3
  have hd : Dp K H u (rowD l) := hu
  obtain ⟨p, xs, rfl, hT, hX⟩ := hd.tuple
  rw [dpa_int_eq hX] at hT
  exact ⟨a, p, n, js, z, l, rfl, L, G, l6, by omega, es, z1, z2, hT, hl, fun q2 rows2 H' h1 h2 h3 s D => hq _ _ _ s D (fine_crews l6 h2)⟩
end
/-! ## one of two values, the rest once -/
theorem iteV {c : Bool} {i j : Nat} {σ : L2.St} {H : Hp} {a a' : Addr} {Q : V → Hp → Prop} (hx : ∀ R : V → Hp → Prop, R (.ref a) H → tVar i σ H R) (hy : ∀ R : V → Hp → Prop, R (.ref a') H → tVar j σ H R) (h : Q (.ref (if c = true then a else a')) H) : if c = true then tVar i σ H Q else tVar j σ H Q := by
  cases c with
  | true => exact hx _ h
  | false => exact hy _ h
theorem iteZ {c : Bool} {i : Nat} {σ : L2.St} {H : Hp} {z z' : Int} {Q : V → Hp → Prop} (hx : c = true → ∀ R : V → Hp → Prop, R (.int z) H → tVar i σ H R) (h : Q (.int (if c = true then z else z')) H) : if c = true then tVar i σ H Q else tC (.int z') σ H Q := by
  cases c with
  | true => exact hx rfl _ h
  | false => exact h
theorem due_or {Hn : Hp} {dl bl : Addr} {d e : Option (Str × Str)} (h1 : Hn dl = some (.lst (dueV d))) (h2 : Hn bl = some (.lst (dueV e))) : Hn (if (!d.isNone) = true then dl else bl) = some (.lst (dueV (orD d e))) := by
  cases d with
  | some x => exact h1
  | none => exact h2
theorem dueR_le {n : Nat} {js : List Job} (h : spanN js ≤ 720) : dueR (some (n, js)) = none := if_neg (by omega)
theorem dueR_gt {n : Nat} {js : List Job} (h : 720 < spanN js) : dueR (some (n, js)) = some (("many" : Str), ("720" : Str)) := if_pos h
theorem dueM_some {o : Option (Nat × List Job)} {k : Option Int} {sv st : Str} (h : dueM o k sv st = none) : ∃ p, o = some p ∧ inRg k 0 (10 ^ 30) = true := by
  unfold dueM at h
  split at h
  · cases h
  · rename_i p
    split at h
    · cases h
    · rename_i c
      refine ⟨_, rfl, ?_⟩
      cases e : inRg k 0 (10 ^ 30) with
      | true => rfl
      | false => exact absurd e c
end Ts
namespace Ts
open PySem PySem.Spec PyProof.Rows L2 LamX
/-! ## the head by facts: defs where they stand, one Bool of facts, tables of code -/
structure DefF where
  adr : PySem.W.Frag → Addr
  name : Str
  qual : Str
  st : Stmt
def DefF.said (d : DefF) : He.FnV := some (d.name, d.qual, defArgs d.st, .stmts (defBody d.st), defScope d.st, mainGlobals, [], .none, builtinsNs)
def seenF (K : PySem.W.Frag) (a : Addr) : He.FnV := match K.lookup a with
  | some o => (match o.data with
    | .func fd => some (fd.name, fd.qualname, fd.params, fd.body, fd.scope, fd.globals, fd.closure, fd.defaults, fd.builtins)
    | _ => none)
  | none => none
def codeF (K : PySem.W.Frag) (a : Addr) (q : Str) : Bool := match K.lookup a with
  | some o => (match o.data with
    | .func fd => PySem.W.codeIn K fd.code q
    | _ => false)
  | none => false
theorem defF_ok {K : PySem.W.Frag} {d : DefF} (e : seenF K (d.adr K) = d.said) (c : codeF K (d.adr K) d.qual = true) :
    ∃ (oc : Value) (od : Option Addr) (sl : Array (Option Value)) (kV dc pm : Value) (an : Option Addr) (cd ct : Value), K.lookup (d.adr K) = some ⟨oc, od, .func (PySem.W.fnOf d.name d.qual (defArgs d.st) (defBody d.st) (defScope d.st) .none kV dc pm an cd ct), sl⟩ ∧ PySem.W.codeIn K cd d.qual = true := by
  unfold seenF at e
  unfold codeF at c
  cases hl : K.lookup (d.adr K) with
  | none => rw [hl] at c; cases c
  | some o =>
    obtain ⟨oc, od, dt, sl⟩ := o
    rw [hl] at c e
    cases dt with
    | func fd =>
      obtain ⟨m1, m2, m3, m4, m5, m6, m7, m8, m9, p1, p2, p3, p4, p5, p6⟩ := fd
      have e9 : (some (m1, m2, m3, m4, m5, m6, m7, m8, p6) : He.FnV) = some (d.name, d.qual, defArgs d.st, .stmts (defBody d.st), defScope d.st, mainGlobals, [], .none, builtinsNs) := e
      simp only [Option.some.injEq, Prod.mk.injEq] at e9
      obtain ⟨rfl, rfl, rfl, rfl, rfl, rfl, rfl, rfl, rfl⟩ := e9
      exact ⟨oc, od, sl, m9, p1, p2, p3, p4, p5, rfl, c⟩
    | _ => cases c
/-- a def's code object and its table -/
def codeAd (K : PySem.W.Frag) (f : Addr) : Addr := match K.lookup f with
  | some o => (match o.data with
    | .func fd => (match fd.code with
      | .ref c => c
      | _ => 0)
    | _ => 0)
  | none => 0
def tabAd (K : PySem.W.Frag) (c : Addr) : Addr := match K.lookup c with
  | some o => (match o.data with
    | .fields vs => (match vs.getD 11 .none with
      | .ref p => p
      | _ => 0)
    | _ => 0)
  | none => 0
theorem codeAd_ok {K : PySem.W.Frag} {f : Addr} {o : Obj} {fd : FuncData} (l : K.lookup f = some o) (e : o.data = .func fd) {q : Str} (c : PySem.W.codeIn K fd.code q = true) : fd.code = .ref (codeAd K f) := by
  unfold codeAd
  rw [l]
  show fd.code = .ref (match o.data with | .func fd => (match fd.code with | .ref c => c | _ => 0) | _ => 0)
  rw [e]
  cases h : fd.code with
  | ref z => show Value.ref z = .ref (match fd.code with | .ref c => c | _ => 0); rw [h]
  | _ => rw [h] at c; cases c
/-- the token of a number or a text of the top -/
def tokAd (K : PySem.W.Frag) (x : Str) : Tok := match PySem.W.nsIn K mainGlobals x with
  | some (some (.int _ t)) => t
  | some (some (.str _ t)) => t
  | _ => default
/-- what a property's object was made of -/
def getAd (K : PySem.W.Frag) (p : Addr) : Addr := match PySem.W.recIn K p "property" with
  | some (.ref f :: _) => f
  | _ => 0
def restAd (K : PySem.W.Frag) (p : Addr) : List Value := match PySem.W.recIn K p "property" with
  | some (_ :: r) => r
  | _ => []
abbrev AlF : Type := Bool × List He.FnV
def okF (fn : List DefF) (tf : List (PySem.W.Frag → Addr × Addr)) (ex : PySem.W.Frag → Bool) (g : Addr → Option Obj) (K : PySem.W.Frag) : Bool :=
  (fn.all fun d => codeF K (d.adr K) d.qual) && (ex K && tf.all fun p => PySem.W.codeHdIn K (p K).1 (p K).2 && (match g (p K).2 with
    | some o => He.emptyTab o
    | none => false))
def lookF (fn : List DefF) (tf : List (PySem.W.Frag → Addr × Addr)) (ex : PySem.W.Frag → Bool) (g : Addr → Option Obj) (K : PySem.W.Frag) : AlF := (okF fn tf ex g K, fn.map fun d => seenF K (d.adr K))
def dueF (fn : List DefF) : AlF := (true, fn.map DefF.said)
structure SaysF (fn : List DefF) (tf : List (PySem.W.Frag → Addr × Addr)) (ex : PySem.W.Frag → Bool) (h : Heap) (K : PySem.W.Frag) : Prop where
  fns : fn.map (fun d => seenF K (d.adr K)) = fn.map DefF.said
  codes : ∀ d ∈ fn, codeF K (d.adr K) d.qual = true
  more : ex K = true
  heads : ∀ p ∈ tf, PySem.W.codeHdIn K (p K).1 (p K).2 = true
  outs : ∀ p ∈ tf, K.lookup (p K).2 = none
  empties : ∀ p ∈ tf, h.get? (p K).2 = some { cls := .none, data := .fields #[] }
theorem SaysF.def_ {fn : List DefF} {tf : List (PySem.W.Frag → Addr × Addr)} {ex : PySem.W.Frag → Bool} {h : Heap} {K : PySem.W.Frag} (S : SaysF fn tf ex h K) (i : Nat) {d : DefF} (hi : fn[i]? = some d := by rfl) :
    ∃ (oc : Value) (od : Option Addr) (sl : Array (Option Value)) (kV dc pm : Value) (an : Option Addr) (cd ct : Value), K.lookup (d.adr K) = some ⟨oc, od, .func (PySem.W.fnOf d.name d.qual (defArgs d.st) (defBody d.st) (defScope d.st) .none kV dc pm an cd ct), sl⟩ ∧ PySem.W.codeIn K cd d.qual = true := by
  have e : (fn.map fun d => seenF K (d.adr K))[i]? = (fn.map DefF.said)[i]? := by rw [S.fns]
  rw [List.getElem?_map, List.getElem?_map, hi] at e
  exact defF_ok (Option.some.inj e) (S.codes d (List.mem_of_getElem? hi))
theorem saysF_of {as : List Addr} {fn : List DefF} {tf : List (PySem.W.Frag → Addr × Addr)} {ex : PySem.W.Frag → Bool} {h : Heap} (e : lookF fn tf ex h.get? (He.frT h.get? as) = dueF fn) : SaysF fn tf ex h (He.frT h.get? as) := by
  have e1 := (Prod.mk.inj e).1
  have e2 := (Prod.mk.inj e).2
  unfold okF at e1
  obtain ⟨z1, z2⟩ := He.ba e1
  obtain ⟨z3, z4⟩ := He.ba z2
  have key : ∀ p ∈ tf, PySem.W.codeHdIn (He.frT h.get? as) (p (He.frT h.get? as)).1 (p (He.frT h.get? as)).2 = true ∧
      ∃ o, h.get? (p (He.frT h.get? as)).2 = some o ∧ He.emptyTab o = true := fun p hp => by
    obtain ⟨y1, y2⟩ := He.ba (List.all_eq_true.mp z4 p hp)
    refine ⟨y1, ?_⟩
    cases q : h.get? (p (He.frT h.get? as)).2 with
    | none => rw [q] at y2; cases y2
    | some o => rw [q] at y2; exact ⟨o, rfl, y2⟩
  exact ⟨e2, fun d hd => List.all_eq_true.mp z1 d hd, z3, fun p hp => (key p hp).1,
    fun p hp => let ⟨_, _, q, z⟩ := key p hp; He.frT_none q z,
    fun p hp => let ⟨_, _, q, z⟩ := key p hp; by rw [q, He.emptyTab_eq z]⟩
def hookF (as : List Addr) (fn : List DefF) (tf : List (PySem.W.Frag → Addr × Addr)) (ex : PySem.W.Frag → Bool) : PySem.W.Hook where
  α := AlF
  obs := fun s => lookF fn tf ex s.heap.get? (He.frT s.heap.get? as)
  val := fun _ => dueF fn
  says := fun _ h => ∃ K : PySem.W.Frag, K.In h ∧ SaysF fn tf ex h K
  of := fun _ _ e => ⟨_, He.frT_in, saysF_of e⟩
  keeps := fun _ _ _ ⟨K, hK, c⟩ k => ⟨K, PySem.W.Frag.In.keeps hK k, ⟨c.fns, c.codes, c.more, c.heads, c.outs, fun p hp => k _ _ (c.empties p hp)⟩⟩
def viewF (as : List Addr) (fn : List DefF) (tf : List (PySem.W.Frag → Addr × Addr)) (ex : PySem.W.Frag → Bool) (g : Addr → Option Obj) : AlF := lookF fn tf ex g (He.frT g as)
theorem viewF_eq {as : List Addr} {fn : List DefF} {tf : List (PySem.W.Frag → Addr × Addr)} {ex : PySem.W.Frag → Bool} (s : PySem.W.SharedT) : viewF as fn tf ex (HandSHeadRun.getT s) = (hookF as fn tf ex).obs s.abs := by
  have e : HandSHeadRun.getT s = s.abs.heap.get? := funext (HandSHeadRun.getT_eq s)
  show lookF fn tf ex (HandSHeadRun.getT s) (He.frT (HandSHeadRun.getT s) as) = lookF fn tf ex s.abs.heap.get? (He.frT s.abs.heap.get? as)
  rw [e]
/-- the run of the top by the library's twins -/
noncomputable abbrev topF (r : PySem.W.OpenRow) (M : Nat) (w : World) : Option (Shared × PySem.W.SharedT) := HandSHeadRun.wholeF (fun p => HandSHeadRun.stepQ (HandSHeadRun.denQ HandSHeadRun.tabQ) p w) HandSHeadRun.fenceQ M r.prog
/-- its equation, asked in two parts -/
theorem run_two {r : PySem.W.OpenRow} {q : Program} {H : PySem.W.Hook} {ob : PySem.W.SharedT → H.α} {M : Nat} {loose : List Str} {w : World}
    (h1 : (topF r M w).map (fun x => (HandSHeadRun.looksF r.prog x.1.heap x.2.abs, HandSHeadRun.seenQ q loose (importedModules r.prog.main.body) (fun s => PySem.W.xlAt q [] s && PySem.W.recOk r.toRowW.records s) x.2.abs)) = some (true, PySem.W.openGood q loose))
    (h2 : (topF r M w).map (fun x => ob x.2) = some (H.val w)) : HandSHeadRun.RunEqI r q H ob M loose w := by
  show (topF r M w).map _ = _
  revert h1 h2
  generalize topF r M w = o
  intro h1 h2
  cases o with
  | none => cases h1
  | some x =>
    have a := Prod.mk.inj (Option.some.inj h1)
    have b := Option.some.inj h2
    exact congrArg some (Prod.ext a.1 (Prod.ext a.2 b))
/-! ### the law is called, over such a head -/
theorem walk_GFT {l : PySem.W.OpenLaw} {k : Nat} {q : Program} {loose : List Str} {XP : (Str → Option Value) → Heap → Prop} {YP : World → Heap → Prop} {d : DefRec} {x : Str}
    (most : l.most = some 63) (plain : d.params.defaults = []) (room : Room k callerA)
    (F : ∀ (w : World) (mg : Str → Option Value) (fa : Addr) (h : Heap), YP w h → h.Ns mainGlobals mg → mg d.name = some (.ref fa) →
      ∃ (K : PySem.W.Frag) (fd : FuncData) (cs : List (Addr × Addr)) (T : List (Addr × Str)), K.In h ∧ (∀ p ∈ cs, PySem.W.codeHdIn K p.1 p.2 = true) ∧ (∀ p ∈ cs, K.lookup p.2 = none) ∧
        (∀ p ∈ cs, h.get? p.2 = some { cls := .none, data := .fields #[] }) ∧ (∀ p ∈ T, ∃ c, (c, p.1) ∈ cs) ∧ (∀ (s : Shared) (u : Value), BindsTo s fd ⟨[u], []⟩ [(x, u)]) ∧
        ∀ base : Heap, (∀ p ∈ cs, TabB base mg p.1 p.2) → FnG l.prog w K mg base k fa fd [x] (spLawT K T)) :
    PySem.W.WalkO q loose XP YP l.row.toRowW d [] (fun f vs => PySem.call f vs) := by
  refine Att.attach_call most plain fun w s t mg mb fa o pm cd doc a vs ns G Y ho hd hcd hmg hobj hints hlen hg => ?_
  obtain ⟨K, fd, cs, T, inK, h1, h2, h3, h4, bind, hF⟩ := F w mg fa _ Y G.T.g hmg
  refine end_GT (cs := cs) inK G.T.g G.T.b G.T.builtins G.T.nolimit hg h3 h2 (fun p hp => PySem.W.codeHd_of_K inK (h1 p hp)) G.T.bmain hobj hints (Nat.le_trans hlen (by decide)) room (fun base _ _ tbb => hF base tbb) bind fun H hTT hS => ⟨a, ns, rfl, hS, hlen, fun p hp => ?_, fun _ => rfl⟩
  obtain ⟨c, hc⟩ := h4 p hp
  exact hTT _ hc
end Ts
namespace Ts
open PySem PySem.Spec PyProof.Rows L2 L2H LamX
abbrev s_crew_of : Stmt := top 3
theorem sc_crew_of : FnScope ["members", "at"] ["members"] (defScope s_crew_of) := ⟨rfl, rfl, rfl, by decide +kernel, rfl, by decide +kernel, by decide +kernel⟩
abbrev s_members_of : Stmt := top 4
theorem sc_members_of : FnScope ["crew", "at"] ["crew"] (defScope s_members_of) := ⟨rfl, rfl, rfl, by decide +kernel, rfl, by decide +kernel, by decide +kernel⟩
abbrev s_sizes_of_crews : Stmt := top 5
theorem sc_sizes_of_crews : FnScope ["many", "sizes", "_", "size"] ["many"] (defScope s_sizes_of_crews) := ⟨rfl, rfl, rfl, by decide +kernel, rfl, by decide +kernel, by decide +kernel⟩
abbrev s_parts_of_crews : Stmt := top 6
theorem sc_parts_of_crews : FnScope ["many", "parts", "at", "within", "part"] ["many"] (defScope s_parts_of_crews) := ⟨rfl, rfl, rfl, by decide +kernel, rfl, by decide +kernel, by decide +kernel⟩
abbrev s_InvalidNumber___init__ : Stmt := inClass (top 10) 0
theorem sc_InvalidNumber___init__ : FnScope ["self", "given"] ["self", "given"] (defScope s_InvalidNumber___init__) := ⟨rfl, rfl, rfl, by decide +kernel, rfl, by decide +kernel, by decide +kernel⟩
abbrev s_InvalidStanding___init__ : Stmt := inClass (top 13) 0
theorem sc_InvalidStanding___init__ : FnScope ["self", "given"] ["self", "given"] (defScope s_InvalidStanding___init__) := ⟨rfl, rfl, rfl, by decide +kernel, rfl, by decide +kernel, by decide +kernel⟩
abbrev s_NotALot___init__ : Stmt := inClass (top 14) 0
theorem sc_NotALot___init__ : FnScope ["self", "given"] ["self", "given"] (defScope s_NotALot___init__) := ⟨rfl, rfl, rfl, by decide +kernel, rfl, by decide +kernel, by decide +kernel⟩
abbrev s_TooMany___init__ : Stmt := inClass (top 20) 0
theorem sc_TooMany___init__ : FnScope ["self", "limit"] ["self", "limit"] (defScope s_TooMany___init__) := ⟨rfl, rfl, rfl, by decide +kernel, rfl, by decide +kernel, by decide +kernel⟩
abbrev s_is_number : Stmt := top 30
theorem sc_is_number : FnScope ["value", "low", "high"] ["value", "low", "high"] (defScope s_is_number) := ⟨rfl, rfl, rfl, by decide +kernel, rfl, by decide +kernel, by decide +kernel⟩
abbrev s_is_number_from : Stmt := top 31
theorem sc_is_number_from : FnScope ["value", "low"] ["value", "low"] (defScope s_is_number_from) := ⟨rfl, rfl, rfl, by decide +kernel, rfl, by decide +kernel, by decide +kernel⟩
abbrev s_is_name : Stmt := top 32
theorem sc_is_name : FnScope ["value", "letter"] ["value"] (defScope s_is_name) := ⟨rfl, rfl, rfl, by decide +kernel, rfl, by decide +kernel, by decide +kernel⟩
abbrev s_is_share : Stmt := top 33
theorem sc_is_share : FnScope ["value", "top", "bottom"] ["value"] (defScope s_is_share) := ⟨rfl, rfl, rfl, by decide +kernel, rfl, by decide +kernel, by decide +kernel⟩
abbrev s_check_number : Stmt := top 34
theorem sc_check_number : FnScope ["number", "low", "high"] ["number", "low", "high"] (defScope s_check_number) := ⟨rfl, rfl, rfl, by decide +kernel, rfl, by decide +kernel, by decide +kernel⟩
abbrev s_check_moment : Stmt := top 35
theorem sc_check_moment : FnScope ["moment"] ["moment"] (defScope s_check_moment) := ⟨rfl, rfl, rfl, by decide +kernel, rfl, by decide +kernel, by decide +kernel⟩
abbrev s_Lot___init__ : Stmt := inClass (top 37) 0
theorem sc_Lot___init__ : FnScope ["self", "text", "first", "rows", "hands", "works"] ["self", "text"] (defScope s_Lot___init__) := ⟨rfl, rfl, rfl, by decide +kernel, rfl, by decide +kernel, by decide +kernel⟩
abbrev s_Lot_text : Stmt := inClass (top 37) 1
theorem sc_Lot_text : FnScope ["self"] ["self"] (defScope s_Lot_text) := ⟨rfl, rfl, rfl, by decide +kernel, rfl, by decide +kernel, by decide +kernel⟩
abbrev s_Lot_hands : Stmt := inClass (top 37) 2
theorem sc_Lot_hands : FnScope ["self"] ["self"] (defScope s_Lot_hands) := ⟨rfl, rfl, rfl, by decide +kernel, rfl, by decide +kernel, by decide +kernel⟩
abbrev s_Lot_shares : Stmt := inClass (top 37) 4
theorem sc_Lot_shares : FnScope ["self"] ["self"] (defScope s_Lot_shares) := ⟨rfl, rfl, rfl, by decide +kernel, rfl, by decide +kernel, by decide +kernel⟩
abbrev s_Lot_span : Stmt := inClass (top 37) 6
theorem sc_Lot_span : FnScope ["self"] ["self"] (defScope s_Lot_span) := ⟨rfl, rfl, rfl, by decide +kernel, rfl, by decide +kernel, by decide +kernel⟩
abbrev s_Lot___repr__ : Stmt := inClass (top 37) 12
theorem sc_Lot___repr__ : FnScope ["self"] ["self"] (defScope s_Lot___repr__) := ⟨rfl, rfl, rfl, by decide +kernel, rfl, by decide +kernel, by decide +kernel⟩
abbrev s_check_lot : Stmt := top 38
theorem sc_check_lot : FnScope ["lot"] ["lot"] (defScope s_check_lot) := ⟨rfl, rfl, rfl, by decide +kernel, rfl, by decide +kernel, by decide +kernel⟩
abbrev s_check_round : Stmt := top 39
theorem sc_check_round : FnScope ["lot"] ["lot"] (defScope s_check_round) := ⟨rfl, rfl, rfl, by decide +kernel, rfl, by decide +kernel, by decide +kernel⟩
abbrev s__read_hands : Stmt := top 40
theorem sc__read_hands : FnScope ["row", "words"] ["row"] (defScope s__read_hands) := ⟨rfl, rfl, rfl, by decide +kernel, rfl, by decide +kernel, by decide +kernel⟩
abbrev s__read_works : Stmt := top 41
theorem sc__read_works : FnScope ["rows", "works", "row", "work"] ["rows"] (defScope s__read_works) := ⟨rfl, rfl, rfl, by decide +kernel, rfl, by decide +kernel, by decide +kernel⟩
abbrev s__read_work : Stmt := top 42
theorem sc__read_work : FnScope ["row", "words", "word", "share"] ["row"] (defScope s__read_work) := ⟨rfl, rfl, rfl, by decide +kernel, rfl, by decide +kernel, by decide +kernel⟩
abbrev s__read_number : Stmt := top 43
theorem sc__read_number : FnScope ["word", "most", "number"] ["word", "most"] (defScope s__read_number) := ⟨rfl, rfl, rfl, by decide +kernel, rfl, by decide +kernel, by decide +kernel⟩
abbrev s__span_of : Stmt := top 45
theorem sc__span_of : FnScope ["shares", "span", "_", "bottom"] ["shares"] (defScope s__span_of) := ⟨rfl, rfl, rfl, by decide +kernel, rfl, by decide +kernel, by decide +kernel⟩
abbrev s__total_of : Stmt := top 46
theorem sc__total_of : FnScope ["shares", "span", "top", "bottom", "parts", "common"] ["shares", "span"] (defScope s__total_of) := ⟨rfl, rfl, rfl, by decide +kernel, rfl, by decide +kernel, by decide +kernel⟩
abbrev s_all_picks : Stmt := top 48
theorem sc_all_picks : FnScope ["options", "picks", "option", "taken", "one"] ["options"] (defScope s_all_picks) := ⟨rfl, rfl, rfl, by decide +kernel, rfl, by decide +kernel, by decide +kernel⟩
abbrev s_turns_of : Stmt := top 50
theorem sc_turns_of : FnScope ["share", "moment", "top", "bottom"] ["share", "moment"] (defScope s_turns_of) := ⟨rfl, rfl, rfl, by decide +kernel, rfl, by decide +kernel, by decide +kernel⟩
abbrev s__quotient_up : Stmt := top 51
theorem sc__quotient_up : FnScope ["top", "bottom"] ["top", "bottom"] (defScope s__quotient_up) := ⟨rfl, rfl, rfl, by decide +kernel, rfl, by decide +kernel, by decide +kernel⟩
abbrev s_Walk___init__ : Stmt := inClass (top 53) 0
theorem sc_Walk___init__ : FnScope ["self", "shares", "hands", "moment", "share", "numbers", "row", "low", "_", "at", "high", "after"] ["self", "shares", "hands"] (defScope s_Walk___init__) := ⟨rfl, rfl, rfl, by decide +kernel, rfl, by decide +kernel, by decide +kernel⟩
abbrev s_Walk_is_alive : Stmt := inClass (top 53) 1
theorem sc_Walk_is_alive : FnScope ["self", "moment", "ahead"] ["self", "moment", "ahead"] (defScope s_Walk_is_alive) := ⟨rfl, rfl, rfl, by decide +kernel, rfl, by decide +kernel, by decide +kernel⟩
abbrev s_Walk_crews : Stmt := inClass (top 53) 2
theorem sc_Walk_crews : FnScope ["self", "moment", "ahead", "grown", "needed", "free", "room", "part"] ["self", "moment", "ahead"] (defScope s_Walk_crews) := ⟨rfl, rfl, rfl, by decide +kernel, rfl, by decide +kernel, by decide +kernel⟩
abbrev s_Walk_choices : Stmt := inClass (top 53) 3
theorem sc_Walk_choices : FnScope ["self", "moment", "ahead", "living", "shift", "crew"] ["self", "moment", "ahead"] (defScope s_Walk_choices) := ⟨rfl, rfl, rfl, by decide +kernel, rfl, by decide +kernel, by decide +kernel⟩
abbrev s_round_of : Stmt := top 54
theorem sc_round_of : FnScope ["lot"] ["lot"] (defScope s_round_of) := ⟨rfl, rfl, rfl, by decide +kernel, rfl, by decide +kernel, by decide +kernel⟩
abbrev s__grown_between : Stmt := top 55
theorem sc__grown_between : FnScope ["before", "after", "at", "low"] ["before", "after"] (defScope s__grown_between) := ⟨rfl, rfl, rfl, by decide +kernel, rfl, by decide +kernel, by decide +kernel⟩
abbrev s__living_of : Stmt := top 56
theorem sc__living_of : FnScope ["walk", "many", "parts", "part", "possible", "at", "ahead", "not_ahead", "living", "moment", "before"] ["walk", "many"] (defScope s__living_of) := ⟨rfl, rfl, rfl, by decide +kernel, rfl, by decide +kernel, by decide +kernel⟩
abbrev s__standings_before : Stmt := top 57
theorem sc__standings_before : FnScope ["after", "grown", "not_ahead", "most", "found", "at", "others", "step", "pairs", "idle", "given", "told", "standings"] ["after", "grown", "not_ahead", "most"] (defScope s__standings_before) := ⟨rfl, rfl, rfl, by decide +kernel, rfl, by decide +kernel, by decide +kernel⟩
abbrev s_standings : Stmt := top 59
theorem sc_standings : FnScope ["lot", "moment", "low", "high"] ["lot", "moment"] (defScope s_standings) := ⟨rfl, rfl, rfl, by decide +kernel, rfl, by decide +kernel, by decide +kernel⟩
abbrev s_alive : Stmt := top 60
theorem sc_alive : FnScope ["lot", "moment", "told", "walk", "standing"] ["lot", "moment"] (defScope s_alive) := ⟨rfl, rfl, rfl, by decide +kernel, rfl, by decide +kernel, by decide +kernel⟩
abbrev s_choices : Stmt := top 61
theorem sc_choices : FnScope ["lot", "moment", "standing", "crews", "crew"] ["lot", "moment", "standing"] (defScope s_choices) := ⟨rfl, rfl, rfl, by decide +kernel, rfl, by decide +kernel, by decide +kernel⟩
abbrev s_check_standing : Stmt := top 62
theorem sc_check_standing : FnScope ["lot", "moment", "standing", "numbers", "number", "low", "high"] ["lot", "moment", "standing"] (defScope s_check_standing) := ⟨rfl, rfl, rfl, by decide +kernel, rfl, by decide +kernel, by decide +kernel⟩
abbrev s_ahead_in : Stmt := top 63
theorem sc_ahead_in : FnScope ["lot", "moment", "standing", "numbers", "at", "number"] ["lot", "moment", "standing"] (defScope s_ahead_in) := ⟨rfl, rfl, rfl, by decide +kernel, rfl, by decide +kernel, by decide +kernel⟩
abbrev s__numbers_at : Stmt := top 64
theorem sc__numbers_at : FnScope ["lot", "moment", "share"] ["lot", "moment"] (defScope s__numbers_at) := ⟨rfl, rfl, rfl, by decide +kernel, rfl, by decide +kernel, by decide +kernel⟩
abbrev s__law_basin : Stmt := top 66
theorem sc__law_basin : FnScope ["_law_script", "_law_at", "_law_own", "_law_swirled", "_law_each"] ["_law_script", "_law_at"] (defScope s__law_basin) := ⟨rfl, rfl, rfl, by decide +kernel, rfl, by decide +kernel, by decide +kernel⟩
abbrev s__law_ladle : Stmt := top 67
theorem sc__law_ladle : FnScope ["_law_basin_here", "_law_many", "_law_digit", "_law_swirled"] ["_law_basin_here", "_law_many"] (defScope s__law_ladle) := ⟨rfl, rfl, rfl, by decide +kernel, rfl, by decide +kernel, by decide +kernel⟩
abbrev s__law_tags : Stmt := top 68
theorem sc__law_tags : FnScope ["_law_basin_here", "_law_many", "_law_sign", "_law_found", "_law_spare", "_law_spot", "_law_tag", "_law_step", "_law_each"] ["_law_basin_here", "_law_many"] (defScope s__law_tags) := ⟨rfl, rfl, rfl, by decide +kernel, rfl, by decide +kernel, by decide +kernel⟩
abbrev s__law_lowest : Stmt := top 69
theorem sc__law_lowest : FnScope ["_law_top", "_law_bottom", "_law_a", "_law_b"] ["_law_top", "_law_bottom"] (defScope s__law_lowest) := ⟨rfl, rfl, rfl, by decide +kernel, rfl, by decide +kernel, by decide +kernel⟩
abbrev s__law_part : Stmt := top 70
theorem sc__law_part : FnScope ["_law_basin_here", "_law_most", "_law_bottom"] ["_law_basin_here", "_law_most"] (defScope s__law_part) := ⟨rfl, rfl, rfl, by decide +kernel, rfl, by decide +kernel, by decide +kernel⟩
abbrev s__law_jobs : Stmt := top 71
theorem sc__law_jobs : FnScope ["_law_basin_here", "_law_most", "_law_deep", "_law_tags_here", "_law_tag"] ["_law_basin_here", "_law_most", "_law_deep"] (defScope s__law_jobs) := ⟨rfl, rfl, rfl, by decide +kernel, rfl, by decide +kernel, by decide +kernel⟩
abbrev s__law_page : Stmt := top 72
theorem sc__law_page : FnScope ["_law_many", "_law_jobs_here", "_law_rows", "_law_tag", "_law_part_here"] ["_law_many", "_law_jobs_here"] (defScope s__law_page) := ⟨rfl, rfl, rfl, by decide +kernel, rfl, by decide +kernel, by decide +kernel⟩
abbrev s__law_cycle : Stmt := top 73
theorem sc__law_cycle : FnScope ["_law_jobs_here", "_law_found", "_law_tag", "_law_part_here", "_law_here"] ["_law_jobs_here"] (defScope s__law_cycle) := ⟨rfl, rfl, rfl, by decide +kernel, rfl, by decide +kernel, by decide +kernel⟩
abbrev s__law_within : Stmt := top 74
theorem sc__law_within : FnScope ["_law_thing", "_law_low", "_law_high"] ["_law_thing", "_law_low", "_law_high"] (defScope s__law_within) := ⟨rfl, rfl, rfl, by decide +kernel, rfl, by decide +kernel, by decide +kernel⟩
abbrev s__law_bases : Stmt := top 75
theorem sc__law_bases : FnScope ["_law_e", "_law_own", "_law_plain"] ["_law_e"] (defScope s__law_bases) := ⟨rfl, rfl, rfl, by decide +kernel, rfl, by decide +kernel, by decide +kernel⟩
abbrev s__law_class : Stmt := top 76
theorem sc__law_class : FnScope ["_law_e", "_law_marks", "_law_at", "_law_terms"] ["_law_e"] (defScope s__law_class) := ⟨rfl, rfl, rfl, by decide +kernel, rfl, by decide +kernel, by decide +kernel⟩
abbrev s__law_heard : Stmt := top 77
theorem sc__law_heard : FnScope ["_law_act", "_law_back", "_law_e", "_law_term"] ["_law_act"] (defScope s__law_heard) := ⟨rfl, rfl, rfl, by decide +kernel, rfl, by decide +kernel, by decide +kernel⟩
abbrev s__law_same : Stmt := top 78
theorem sc__law_same : FnScope ["_law_told", "_law_due", "_law_each"] ["_law_told", "_law_due"] (defScope s__law_same) := ⟨rfl, rfl, rfl, by decide +kernel, rfl, by decide +kernel, by decide +kernel⟩
abbrev s__law_no_lot : Stmt := top 79
theorem sc__law_no_lot : FnScope ["_law_basin_here", "_law_here"] ["_law_basin_here", "_law_here"] (defScope s__law_no_lot) := ⟨rfl, rfl, rfl, by decide +kernel, rfl, by decide +kernel, by decide +kernel⟩
abbrev s__law_kept : Stmt := top 80
theorem sc__law_kept : FnScope ["_law_part_here", "_law_t", "_law_e", "_law_p", "_law_near", "_law_many"] ["_law_part_here", "_law_t"] (defScope s__law_kept) := ⟨rfl, rfl, rfl, by decide +kernel, rfl, by decide +kernel, by decide +kernel⟩
abbrev s__law_row : Stmt := top 81
theorem sc__law_row : FnScope ["_law_basin_here", "_law_jobs_here", "_law_t", "_law_tag", "_law_part_here", "_law_row_here", "_law_at", "_law_way_here", "_law_odd"] ["_law_basin_here", "_law_jobs_here", "_law_t"] (defScope s__law_row) := ⟨rfl, rfl, rfl, by decide +kernel, rfl, by decide +kernel, by decide +kernel⟩
abbrev s__law_is_row : Stmt := top 82
theorem sc__law_is_row : FnScope ["_law_jobs_here", "_law_t", "_law_thing", "_law_k"] ["_law_jobs_here", "_law_t", "_law_thing"] (defScope s__law_is_row) := ⟨rfl, rfl, rfl, by decide +kernel, rfl, by decide +kernel, by decide +kernel⟩
abbrev s__law_right : Stmt := top 83
theorem sc__law_right : FnScope ["_law_basin_here", "_law_step", "_law_jobs_here", "_law_big", "_law_here", "_law_t", "_law_is_time", "_law_row_here", "_law_due", "_law_told"] ["_law_basin_here"] (defScope s__law_right) := ⟨rfl, rfl, rfl, by decide +kernel, rfl, by decide +kernel, by decide +kernel⟩
abbrev s_law : Stmt := top 84
theorem sc_law : FnScope ["_law_script", "_law_at"] ["_law_script"] (defScope s_law) := ⟨rfl, rfl, rfl, by decide +kernel, rfl, by decide +kernel, by decide +kernel⟩
def fF0 : DefF := ⟨fun K => He.ga K "_law_basin", "_law_basin", "_law_basin", s__law_basin⟩
def fF1 : DefF := ⟨fun K => He.ga K "_law_ladle", "_law_ladle", "_law_ladle", s__law_ladle⟩
def fF2 : DefF := ⟨fun K => He.ga K "_law_tags", "_law_tags", "_law_tags", s__law_tags⟩
def fF3 : DefF := ⟨fun K => He.ga K "_law_lowest", "_law_lowest", "_law_lowest", s__law_lowest⟩
def fF4 : DefF := ⟨fun K => He.ga K "_law_part", "_law_part", "_law_part", s__law_part⟩
def fF5 : DefF := ⟨fun K => He.ga K "_law_jobs", "_law_jobs", "_law_jobs", s__law_jobs⟩
def fF6 : DefF := ⟨fun K => He.ga K "_law_page", "_law_page", "_law_page", s__law_page⟩
def fF7 : DefF := ⟨fun K => He.ga K "_law_cycle", "_law_cycle", "_law_cycle", s__law_cycle⟩
def fF8 : DefF := ⟨fun K => He.ga K "_law_within", "_law_within", "_law_within", s__law_within⟩
def fF9 : DefF := ⟨fun K => He.ga K "_law_bases", "_law_bases", "_law_bases", s__law_bases⟩
def fF10 : DefF := ⟨fun K => He.ga K "_law_class", "_law_class", "_law_class", s__law_class⟩
def fF11 : DefF := ⟨fun K => He.ga K "_law_heard", "_law_heard", "_law_heard", s__law_heard⟩
def fF12 : DefF := ⟨fun K => He.ga K "_law_same", "_law_same", "_law_same", s__law_same⟩
def fF13 : DefF := ⟨fun K => He.ga K "_law_no_lot", "_law_no_lot", "_law_no_lot", s__law_no_lot⟩
def fF14 : DefF := ⟨fun K => He.ga K "_law_kept", "_law_kept", "_law_kept", s__law_kept⟩
def fF15 : DefF := ⟨fun K => He.ga K "_law_row", "_law_row", "_law_row", s__law_row⟩
def fF16 : DefF := ⟨fun K => He.ga K "_law_is_row", "_law_is_row", "_law_is_row", s__law_is_row⟩
def fF17 : DefF := ⟨fun K => He.ga K "_law_right", "_law_right", "_law_right", s__law_right⟩
def fF18 : DefF := ⟨fun K => He.ga K "law", "law", "law", s_law⟩
def fF19 : DefF := ⟨fun K => He.ga K "crew_of", "crew_of", "crew_of", s_crew_of⟩
def fF20 : DefF := ⟨fun K => He.ga K "members_of", "members_of", "members_of", s_members_of⟩
def fF21 : DefF := ⟨fun K => He.ga K "sizes_of_crews", "sizes_of_crews", "sizes_of_crews", s_sizes_of_crews⟩
def fF22 : DefF := ⟨fun K => He.ga K "parts_of_crews", "parts_of_crews", "parts_of_crews", s_parts_of_crews⟩
def fF23 : DefF := ⟨fun K => He.ga K "is_number", "is_number", "is_number", s_is_number⟩
def fF24 : DefF := ⟨fun K => He.ga K "is_number_from", "is_number_from", "is_number_from", s_is_number_from⟩
def fF25 : DefF := ⟨fun K => He.ga K "is_name", "is_name", "is_name", s_is_name⟩
def fF26 : DefF := ⟨fun K => He.ga K "is_share", "is_share", "is_share", s_is_share⟩
def fF27 : DefF := ⟨fun K => He.ga K "check_number", "check_number", "check_number", s_check_number⟩
def fF28 : DefF := ⟨fun K => He.ga K "check_moment", "check_moment", "check_moment", s_check_moment⟩
def fF29 : DefF := ⟨fun K => He.ga K "check_lot", "check_lot", "check_lot", s_check_lot⟩
def fF30 : DefF := ⟨fun K => He.ga K "check_round", "check_round", "check_round", s_check_round⟩
def fF31 : DefF := ⟨fun K => He.ga K "_read_hands", "_read_hands", "_read_hands", s__read_hands⟩
def fF32 : DefF := ⟨fun K => He.ga K "_read_works", "_read_works", "_read_works", s__read_works⟩
def fF33 : DefF := ⟨fun K => He.ga K "_read_work", "_read_work", "_read_work", s__read_work⟩
def fF34 : DefF := ⟨fun K => He.ga K "_read_number", "_read_number", "_read_number", s__read_number⟩
def fF35 : DefF := ⟨fun K => He.ga K "_span_of", "_span_of", "_span_of", s__span_of⟩
def fF36 : DefF := ⟨fun K => He.ga K "_total_of", "_total_of", "_total_of", s__total_of⟩
def fF37 : DefF := ⟨fun K => He.ga K "all_picks", "all_picks", "all_picks", s_all_picks⟩
def fF38 : DefF := ⟨fun K => He.ga K "turns_of", "turns_of", "turns_of", s_turns_of⟩
def fF39 : DefF := ⟨fun K => He.ga K "_quotient_up", "_quotient_up", "_quotient_up", s__quotient_up⟩
def fF40 : DefF := ⟨fun K => He.ga K "round_of", "round_of", "round_of", s_round_of⟩
def fF41 : DefF := ⟨fun K => He.ga K "_grown_between", "_grown_between", "_grown_between", s__grown_between⟩
def fF42 : DefF := ⟨fun K => He.ga K "_living_of", "_living_of", "_living_of", s__living_of⟩
def fF43 : DefF := ⟨fun K => He.ga K "_standings_before", "_standings_before", "_standings_before", s__standings_before⟩
def fF44 : DefF := ⟨fun K => He.ga K "standings", "standings", "standings", s_standings⟩
def fF45 : DefF := ⟨fun K => He.ga K "alive", "alive", "alive", s_alive⟩
def fF46 : DefF := ⟨fun K => He.ga K "choices", "choices", "choices", s_choices⟩
def fF47 : DefF := ⟨fun K => He.ga K "check_standing", "check_standing", "check_standing", s_check_standing⟩
def fF48 : DefF := ⟨fun K => He.ga K "ahead_in", "ahead_in", "ahead_in", s_ahead_in⟩
def fF49 : DefF := ⟨fun K => He.ga K "_numbers_at", "_numbers_at", "_numbers_at", s__numbers_at⟩
def fF50 : DefF := ⟨fun K => He.ma K (He.ga K "Lot") "__init__", "__init__", "Lot.__init__", s_Lot___init__⟩
def fF51 : DefF := ⟨fun K => getAd K (He.ma K (He.ga K "Lot") "text"), "text", "Lot.text", s_Lot_text⟩
def fF52 : DefF := ⟨fun K => getAd K (He.ma K (He.ga K "Lot") "shares"), "shares", "Lot.shares", s_Lot_shares⟩
def fF53 : DefF := ⟨fun K => getAd K (He.ma K (He.ga K "Lot") "hands"), "hands", "Lot.hands", s_Lot_hands⟩
def fF54 : DefF := ⟨fun K => getAd K (He.ma K (He.ga K "Lot") "span"), "span", "Lot.span", s_Lot_span⟩
def fF55 : DefF := ⟨fun K => He.ma K (He.ga K "Lot") "__repr__", "__repr__", "Lot.__repr__", s_Lot___repr__⟩
def fF56 : DefF := ⟨fun K => He.ma K (He.ga K "Walk") "__init__", "__init__", "Walk.__init__", s_Walk___init__⟩
def fF57 : DefF := ⟨fun K => He.ma K (He.ga K "Walk") "is_alive", "is_alive", "Walk.is_alive", s_Walk_is_alive⟩
def fF58 : DefF := ⟨fun K => He.ma K (He.ga K "Walk") "crews", "crews", "Walk.crews", s_Walk_crews⟩
def fF59 : DefF := ⟨fun K => He.ma K (He.ga K "Walk") "choices", "choices", "Walk.choices", s_Walk_choices⟩
def fF60 : DefF := ⟨fun K => He.ma K (He.ga K "InvalidNumber") "__init__", "__init__", "InvalidNumber.__init__", s_InvalidNumber___init__⟩
def fF61 : DefF := ⟨fun K => He.ma K (He.ga K "InvalidStanding") "__init__", "__init__", "InvalidStanding.__init__", s_InvalidStanding___init__⟩
def fF62 : DefF := ⟨fun K => He.ma K (He.ga K "NotALot") "__init__", "__init__", "NotALot.__init__", s_NotALot___init__⟩
def fF63 : DefF := ⟨fun K => He.ma K (He.ga K "TooMany") "__init__", "__init__", "TooMany.__init__", s_TooMany___init__⟩
def fnF : List DefF := [fF0, fF1, fF2, fF3, fF4, fF5, fF6, fF7, fF8, fF9, fF10, fF11, fF12, fF13, fF14, fF15, fF16, fF17, fF18, fF19, fF20, fF21, fF22, fF23, fF24, fF25, fF26, fF27, fF28, fF29, fF30, fF31, fF32, fF33, fF34, fF35, fF36, fF37, fF38, fF39, fF40, fF41, fF42, fF43, fF44, fF45, fF46, fF47, fF48, fF49, fF50, fF51, fF52, fF53, fF54, fF55, fF56, fF57, fF58, fF59, fF60, fF61, fF62, fF63]
abbrev Ex0 (K : PySem.W.Frag) : Prop := (PySem.W.nsIn K mainGlobals "_law_basin" = some (some (.ref (He.ga K "_law_basin")))) ∧ (PySem.W.keepIn K (.ref (He.ga K "_law_basin")) = true) ∧ (PySem.W.nsIn K mainGlobals "_law_ladle" = some (some (.ref (He.ga K "_law_ladle")))) ∧ (PySem.W.keepIn K (.ref (He.ga K "_law_ladle")) = true) ∧ (PySem.W.nsIn K mainGlobals "_law_tags" = some (some (.ref (He.ga K "_law_tags")))) ∧ (PySem.W.keepIn K (.ref (He.ga K "_law_tags")) = true) ∧ (PySem.W.nsIn K mainGlobals "_law_lowest" = some (some (.ref (He.ga K "_law_lowest")))) ∧ (PySem.W.keepIn K (.ref (He.ga K "_law_lowest")) = true) ∧ (PySem.W.nsIn K mainGlobals "_law_part" = some (some (.ref (He.ga K "_law_part")))) ∧ (PySem.W.keepIn K (.ref (He.ga K "_law_part")) = true) ∧ (PySem.W.nsIn K mainGlobals "_law_jobs" = some (some (.ref (He.ga K "_law_jobs")))) ∧ (PySem.W.keepIn K (.ref (He.ga K "_law_jobs")) = true)
abbrev Ex1 (K : PySem.W.Frag) : Prop := (PySem.W.nsIn K mainGlobals "_law_page" = some (some (.ref (He.ga K "_law_page")))) ∧ (PySem.W.keepIn K (.ref (He.ga K "_law_page")) = true) ∧ (PySem.W.nsIn K mainGlobals "_law_cycle" = some (some (.ref (He.ga K "_law_cycle")))) ∧ (PySem.W.keepIn K (.ref (He.ga K "_law_cycle")) = true) ∧ (PySem.W.nsIn K mainGlobals "_law_within" = some (some (.ref (He.ga K "_law_within")))) ∧ (PySem.W.keepIn K (.ref (He.ga K "_law_within")) = true) ∧ (PySem.W.nsIn K mainGlobals "_law_bases" = some (some (.ref (He.ga K "_law_bases")))) ∧ (PySem.W.keepIn K (.ref (He.ga K "_law_bases")) = true) ∧ (PySem.W.nsIn K mainGlobals "_law_class" = some (some (.ref (He.ga K "_law_class")))) ∧ (PySem.W.keepIn K (.ref (He.ga K "_law_class")) = true) ∧ (PySem.W.nsIn K mainGlobals "_law_heard" = some (some (.ref (He.ga K "_law_heard")))) ∧ (PySem.W.keepIn K (.ref (He.ga K "_law_heard")) = true)
abbrev Ex2 (K : PySem.W.Frag) : Prop := (PySem.W.nsIn K mainGlobals "_law_same" = some (some (.ref (He.ga K "_law_same")))) ∧ (PySem.W.keepIn K (.ref (He.ga K "_law_same")) = true) ∧ (PySem.W.nsIn K mainGlobals "_law_no_lot" = some (some (.ref (He.ga K "_law_no_lot")))) ∧ (PySem.W.keepIn K (.ref (He.ga K "_law_no_lot")) = true) ∧ (PySem.W.nsIn K mainGlobals "_law_kept" = some (some (.ref (He.ga K "_law_kept")))) ∧ (PySem.W.keepIn K (.ref (He.ga K "_law_kept")) = true) ∧ (PySem.W.nsIn K mainGlobals "_law_row" = some (some (.ref (He.ga K "_law_row")))) ∧ (PySem.W.keepIn K (.ref (He.ga K "_law_row")) = true) ∧ (PySem.W.nsIn K mainGlobals "_law_is_row" = some (some (.ref (He.ga K "_law_is_row")))) ∧ (PySem.W.keepIn K (.ref (He.ga K "_law_is_row")) = true) ∧ (PySem.W.nsIn K mainGlobals "_law_right" = some (some (.ref (He.ga K "_law_right")))) ∧ (PySem.W.keepIn K (.ref (He.ga K "_law_right")) = true)
abbrev Ex3 (K : PySem.W.Frag) : Prop := (PySem.W.nsIn K mainGlobals "law" = some (some (.ref (He.ga K "law")))) ∧ (PySem.W.keepIn K (.ref (He.ga K "law")) = true) ∧ (PySem.W.nsIn K mainGlobals "crew_of" = some (some (.ref (He.ga K "crew_of")))) ∧ (PySem.W.keepIn K (.ref (He.ga K "crew_of")) = true) ∧ (PySem.W.nsIn K mainGlobals "members_of" = some (some (.ref (He.ga K "members_of")))) ∧ (PySem.W.keepIn K (.ref (He.ga K "members_of")) = true) ∧ (PySem.W.nsIn K mainGlobals "sizes_of_crews" = some (some (.ref (He.ga K "sizes_of_crews")))) ∧ (PySem.W.keepIn K (.ref (He.ga K "sizes_of_crews")) = true) ∧ (PySem.W.nsIn K mainGlobals "parts_of_crews" = some (some (.ref (He.ga K "parts_of_crews")))) ∧ (PySem.W.keepIn K (.ref (He.ga K "parts_of_crews")) = true) ∧ (PySem.W.nsIn K mainGlobals "is_number" = some (some (.ref (He.ga K "is_number")))) ∧ (PySem.W.keepIn K (.ref (He.ga K "is_number")) = true)
abbrev Ex4 (K : PySem.W.Frag) : Prop := (PySem.W.nsIn K mainGlobals "is_number_from" = some (some (.ref (He.ga K "is_number_from")))) ∧ (PySem.W.keepIn K (.ref (He.ga K "is_number_from")) = true) ∧ (PySem.W.nsIn K mainGlobals "is_name" = some (some (.ref (He.ga K "is_name")))) ∧ (PySem.W.keepIn K (.ref (He.ga K "is_name")) = true) ∧ (PySem.W.nsIn K mainGlobals "is_share" = some (some (.ref (He.ga K "is_share")))) ∧ (PySem.W.keepIn K (.ref (He.ga K "is_share")) = true) ∧ (PySem.W.nsIn K mainGlobals "check_number" = some (some (.ref (He.ga K "check_number")))) ∧ (PySem.W.keepIn K (.ref (He.ga K "check_number")) = true) ∧ (PySem.W.nsIn K mainGlobals "check_moment" = some (some (.ref (He.ga K "check_moment")))) ∧ (PySem.W.keepIn K (.ref (He.ga K "check_moment")) = true) ∧ (PySem.W.nsIn K mainGlobals "check_lot" = some (some (.ref (He.ga K "check_lot")))) ∧ (PySem.W.keepIn K (.ref (He.ga K "check_lot")) = true)
abbrev Ex5 (K : PySem.W.Frag) : Prop := (PySem.W.nsIn K mainGlobals "check_round" = some (some (.ref (He.ga K "check_round")))) ∧ (PySem.W.keepIn K (.ref (He.ga K "check_round")) = true) ∧ (PySem.W.nsIn K mainGlobals "_read_hands" = some (some (.ref (He.ga K "_read_hands")))) ∧ (PySem.W.keepIn K (.ref (He.ga K "_read_hands")) = true) ∧ (PySem.W.nsIn K mainGlobals "_read_works" = some (some (.ref (He.ga K "_read_works")))) ∧ (PySem.W.keepIn K (.ref (He.ga K "_read_works")) = true) ∧ (PySem.W.nsIn K mainGlobals "_read_work" = some (some (.ref (He.ga K "_read_work")))) ∧ (PySem.W.keepIn K (.ref (He.ga K "_read_work")) = true) ∧ (PySem.W.nsIn K mainGlobals "_read_number" = some (some (.ref (He.ga K "_read_number")))) ∧ (PySem.W.keepIn K (.ref (He.ga K "_read_number")) = true) ∧ (PySem.W.nsIn K mainGlobals "_span_of" = some (some (.ref (He.ga K "_span_of")))) ∧ (PySem.W.keepIn K (.ref (He.ga K "_span_of")) = true)
abbrev Ex6 (K : PySem.W.Frag) : Prop := (PySem.W.nsIn K mainGlobals "_total_of" = some (some (.ref (He.ga K "_total_of")))) ∧ (PySem.W.keepIn K (.ref (He.ga K "_total_of")) = true) ∧ (PySem.W.nsIn K mainGlobals "all_picks" = some (some (.ref (He.ga K "all_picks")))) ∧ (PySem.W.keepIn K (.ref (He.ga K "all_picks")) = true) ∧ (PySem.W.nsIn K mainGlobals "turns_of" = some (some (.ref (He.ga K "turns_of")))) ∧ (PySem.W.keepIn K (.ref (He.ga K "turns_of")) = true) ∧ (PySem.W.nsIn K mainGlobals "_quotient_up" = some (some (.ref (He.ga K "_quotient_up")))) ∧ (PySem.W.keepIn K (.ref (He.ga K "_quotient_up")) = true) ∧ (PySem.W.nsIn K mainGlobals "round_of" = some (some (.ref (He.ga K "round_of")))) ∧ (PySem.W.keepIn K (.ref (He.ga K "round_of")) = true) ∧ (PySem.W.nsIn K mainGlobals "_grown_between" = some (some (.ref (He.ga K "_grown_between")))) ∧ (PySem.W.keepIn K (.ref (He.ga K "_grown_between")) = true)
abbrev Ex7 (K : PySem.W.Frag) : Prop := (PySem.W.nsIn K mainGlobals "_living_of" = some (some (.ref (He.ga K "_living_of")))) ∧ (PySem.W.keepIn K (.ref (He.ga K "_living_of")) = true) ∧ (PySem.W.nsIn K mainGlobals "_standings_before" = some (some (.ref (He.ga K "_standings_before")))) ∧ (PySem.W.keepIn K (.ref (He.ga K "_standings_before")) = true) ∧ (PySem.W.nsIn K mainGlobals "standings" = some (some (.ref (He.ga K "standings")))) ∧ (PySem.W.keepIn K (.ref (He.ga K "standings")) = true) ∧ (PySem.W.nsIn K mainGlobals "alive" = some (some (.ref (He.ga K "alive")))) ∧ (PySem.W.keepIn K (.ref (He.ga K "alive")) = true) ∧ (PySem.W.nsIn K mainGlobals "choices" = some (some (.ref (He.ga K "choices")))) ∧ (PySem.W.keepIn K (.ref (He.ga K "choices")) = true) ∧ (PySem.W.nsIn K mainGlobals "check_standing" = some (some (.ref (He.ga K "check_standing")))) ∧ (PySem.W.keepIn K (.ref (He.ga K "check_standing")) = true)
abbrev Ex8 (K : PySem.W.Frag) : Prop := (PySem.W.nsIn K mainGlobals "ahead_in" = some (some (.ref (He.ga K "ahead_in")))) ∧ (PySem.W.keepIn K (.ref (He.ga K "ahead_in")) = true) ∧ (PySem.W.nsIn K mainGlobals "_numbers_at" = some (some (.ref (He.ga K "_numbers_at")))) ∧ (PySem.W.keepIn K (.ref (He.ga K "_numbers_at")) = true) ∧ (PySem.W.nsIn K mainGlobals "Lot" = some (some (.ref (He.ga K "Lot")))) ∧ (PySem.W.findIn K (.ref (He.ga K "Lot")) "__init__" = some (some (.ref (He.ma K (He.ga K "Lot") "__init__")))) ∧ (PySem.W.keepIn K (.ref (He.ma K (He.ga K "Lot") "__init__")) = true) ∧ (PySem.W.isFn K (.ref (He.ma K (He.ga K "Lot") "__init__")) = true) ∧ (PySem.W.plainGet K (He.ga K "Lot") Str.empty = true) ∧ (PySem.W.hasDictIn K (He.ga K "Lot") = true) ∧ (PySem.W.plainOver K (He.ga K "Lot") = true) ∧ (PySem.W.findIn K (.ref (He.ga K "Lot")) "__setattr__" = some (some (.builtin "object.__setattr__")))
abbrev Ex9 (K : PySem.W.Frag) : Prop := (PySem.W.makesIn K (He.ga K "Lot") = true) ∧ (PySem.W.keepIn K (.ref (He.ga K "Lot")) = true) ∧ (PySem.W.findIn K (.ref (He.ga K "Lot")) "__class__" = some (some (.builtin "object.__class__"))) ∧ (PySem.W.specialIn K (.builtin "object.__class__") "__get__" = some (some (.builtin "getset_descriptor.__get__"))) ∧ (PySem.W.takesIn K (.builtin "object.__class__") = some true) ∧ (PySem.W.mroIn K (He.ga K "Lot") (.type "object") = some true) ∧ (PySem.W.findIn K (.ref (He.ga K "Lot")) "_text" = some none) ∧ (PySem.W.findIn K (.ref (He.ga K "Lot")) "_hands" = some none) ∧ (PySem.W.findIn K (.ref (He.ga K "Lot")) "_names" = some none) ∧ (PySem.W.findIn K (.ref (He.ga K "Lot")) "_shares" = some none) ∧ (PySem.W.findIn K (.ref (He.ga K "Lot")) "_span" = some none) ∧ (PySem.W.findIn K (.ref (He.ga K "Lot")) "_total" = some none)
abbrev Ex10 (K : PySem.W.Frag) : Prop := (PySem.W.findIn K (.ref (He.ga K "Lot")) "text" = some (some (.ref (He.ma K (He.ga K "Lot") "text")))) ∧ (PySem.W.recIn K (He.ma K (He.ga K "Lot") "text") "property" = some (.ref (getAd K (He.ma K (He.ga K "Lot") "text")) :: (restAd K (He.ma K (He.ga K "Lot") "text")))) ∧ (PySem.W.specialIn K (.ref (He.ma K (He.ga K "Lot") "text")) "__get__" = some (some (.builtin "property.__get__"))) ∧ (PySem.W.takesIn K (.ref (He.ma K (He.ga K "Lot") "text")) = some true) ∧ (PySem.W.keepIn K (.ref (getAd K (He.ma K (He.ga K "Lot") "text"))) = true) ∧ (PySem.W.findIn K (.ref (He.ga K "Lot")) "shares" = some (some (.ref (He.ma K (He.ga K "Lot") "shares")))) ∧ (PySem.W.recIn K (He.ma K (He.ga K "Lot") "shares") "property" = some (.ref (getAd K (He.ma K (He.ga K "Lot") "shares")) :: (restAd K (He.ma K (He.ga K "Lot") "shares")))) ∧ (PySem.W.specialIn K (.ref (He.ma K (He.ga K "Lot") "shares")) "__get__" = some (some (.builtin "property.__get__"))) ∧ (PySem.W.takesIn K (.ref (He.ma K (He.ga K "Lot") "shares")) = some true) ∧ (PySem.W.keepIn K (.ref (getAd K (He.ma K (He.ga K "Lot") "shares"))) = true) ∧ (PySem.W.findIn K (.ref (He.ga K "Lot")) "hands" = some (some (.ref (He.ma K (He.ga K "Lot") "hands")))) ∧ (PySem.W.recIn K (He.ma K (He.ga K "Lot") "hands") "property" = some (.ref (getAd K (He.ma K (He.ga K "Lot") "hands")) :: (restAd K (He.ma K (He.ga K "Lot") "hands"))))
abbrev Ex11 (K : PySem.W.Frag) : Prop := (PySem.W.specialIn K (.ref (He.ma K (He.ga K "Lot") "hands")) "__get__" = some (some (.builtin "property.__get__"))) ∧ (PySem.W.takesIn K (.ref (He.ma K (He.ga K "Lot") "hands")) = some true) ∧ (PySem.W.keepIn K (.ref (getAd K (He.ma K (He.ga K "Lot") "hands"))) = true) ∧ (PySem.W.findIn K (.ref (He.ga K "Lot")) "span" = some (some (.ref (He.ma K (He.ga K "Lot") "span")))) ∧ (PySem.W.recIn K (He.ma K (He.ga K "Lot") "span") "property" = some (.ref (getAd K (He.ma K (He.ga K "Lot") "span")) :: (restAd K (He.ma K (He.ga K "Lot") "span")))) ∧ (PySem.W.specialIn K (.ref (He.ma K (He.ga K "Lot") "span")) "__get__" = some (some (.builtin "property.__get__"))) ∧ (PySem.W.takesIn K (.ref (He.ma K (He.ga K "Lot") "span")) = some true) ∧ (PySem.W.keepIn K (.ref (getAd K (He.ma K (He.ga K "Lot") "span"))) = true) ∧ (PySem.W.findIn K (.ref (He.ga K "Lot")) "__repr__" = some (some (.ref (He.ma K (He.ga K "Lot") "__repr__")))) ∧ (PySem.W.keepIn K (.ref (He.ma K (He.ga K "Lot") "__repr__")) = true) ∧ (PySem.W.isFn K (.ref (He.ma K (He.ga K "Lot") "__repr__")) = true) ∧ (PySem.W.nsIn K mainGlobals "Walk" = some (some (.ref (He.ga K "Walk"))))
abbrev Ex12 (K : PySem.W.Frag) : Prop := (PySem.W.findIn K (.ref (He.ga K "Walk")) "__init__" = some (some (.ref (He.ma K (He.ga K "Walk") "__init__")))) ∧ (PySem.W.keepIn K (.ref (He.ma K (He.ga K "Walk") "__init__")) = true) ∧ (PySem.W.isFn K (.ref (He.ma K (He.ga K "Walk") "__init__")) = true) ∧ (PySem.W.plainGet K (He.ga K "Walk") Str.empty = true) ∧ (PySem.W.hasDictIn K (He.ga K "Walk") = true) ∧ (PySem.W.plainOver K (He.ga K "Walk") = true) ∧ (PySem.W.findIn K (.ref (He.ga K "Walk")) "__setattr__" = some (some (.builtin "object.__setattr__"))) ∧ (PySem.W.makesIn K (He.ga K "Walk") = true) ∧ (PySem.W.keepIn K (.ref (He.ga K "Walk")) = true) ∧ (PySem.W.findIn K (.ref (He.ga K "Walk")) "ticks" = some none) ∧ (PySem.W.findIn K (.ref (He.ga K "Walk")) "most" = some none) ∧ (PySem.W.findIn K (.ref (He.ga K "Walk")) "sizes" = some none)
abbrev Ex13 (K : PySem.W.Frag) : Prop := (PySem.W.findIn K (.ref (He.ga K "Walk")) "parts" = some none) ∧ (PySem.W.findIn K (.ref (He.ga K "Walk")) "lows" = some none) ∧ (PySem.W.findIn K (.ref (He.ga K "Walk")) "doubles" = some none) ∧ (PySem.W.findIn K (.ref (He.ga K "Walk")) "grown" = some none) ∧ (PySem.W.findIn K (.ref (He.ga K "Walk")) "living" = some none) ∧ (PySem.W.findIn K (.ref (He.ga K "Walk")) "is_alive" = some (some (.ref (He.ma K (He.ga K "Walk") "is_alive")))) ∧ (PySem.W.keepIn K (.ref (He.ma K (He.ga K "Walk") "is_alive")) = true) ∧ (PySem.W.isFn K (.ref (He.ma K (He.ga K "Walk") "is_alive")) = true) ∧ (PySem.W.findIn K (.ref (He.ga K "Walk")) "crews" = some (some (.ref (He.ma K (He.ga K "Walk") "crews")))) ∧ (PySem.W.keepIn K (.ref (He.ma K (He.ga K "Walk") "crews")) = true) ∧ (PySem.W.isFn K (.ref (He.ma K (He.ga K "Walk") "crews")) = true) ∧ (PySem.W.findIn K (.ref (He.ga K "Walk")) "choices" = some (some (.ref (He.ma K (He.ga K "Walk") "choices"))))
abbrev Ex14 (K : PySem.W.Frag) : Prop := (PySem.W.keepIn K (.ref (He.ma K (He.ga K "Walk") "choices")) = true) ∧ (PySem.W.isFn K (.ref (He.ma K (He.ga K "Walk") "choices")) = true) ∧ (PySem.W.kitOne K (.type "dict") (.ref (He.ga K "Lot")) = some false) ∧ (PySem.W.kitOne K (.type "NoneType") (.ref (He.ga K "Lot")) = some false) ∧ (PySem.W.kitOne K (.type "bool") (.ref (He.ga K "Lot")) = some false) ∧ (PySem.W.kitOne K (.type "int") (.ref (He.ga K "Lot")) = some false) ∧ (PySem.W.kitOne K (.type "str") (.ref (He.ga K "Lot")) = some false) ∧ (PySem.W.kitOne K (.type "list") (.ref (He.ga K "Lot")) = some false) ∧ (PySem.W.kitOne K (.type "tuple") (.ref (He.ga K "Lot")) = some false) ∧ (PySem.W.nsIn K mainGlobals "InvalidText" = some (some (.ref (He.ga K "InvalidText")))) ∧ (PySem.W.nsIn K mainGlobals "InvalidNumber" = some (some (.ref (He.ga K "InvalidNumber")))) ∧ (PySem.W.nsIn K mainGlobals "InvalidName" = some (some (.ref (He.ga K "InvalidName"))))
abbrev Ex15 (K : PySem.W.Frag) : Prop := (PySem.W.nsIn K mainGlobals "InvalidShare" = some (some (.ref (He.ga K "InvalidShare")))) ∧ (PySem.W.nsIn K mainGlobals "InvalidStanding" = some (some (.ref (He.ga K "InvalidStanding")))) ∧ (PySem.W.nsIn K mainGlobals "NotALot" = some (some (.ref (He.ga K "NotALot")))) ∧ (PySem.W.nsIn K mainGlobals "InvalidLog" = some (some (.ref (He.ga K "InvalidLog")))) ∧ (PySem.W.nsIn K mainGlobals "InvalidForms" = some (some (.ref (He.ga K "InvalidForms")))) ∧ (PySem.W.nsIn K mainGlobals "UnknownName" = some (some (.ref (He.ga K "UnknownName")))) ∧ (PySem.W.nsIn K mainGlobals "TooMany" = some (some (.ref (He.ga K "TooMany")))) ∧ (PySem.W.nsIn K mainGlobals "Alone" = some (some (.ref (He.ga K "Alone")))) ∧ (PySem.W.nsIn K mainGlobals "WrongValue" = some (some (.ref (He.ga K "WrongValue")))) ∧ (PySem.W.nsIn K mainGlobals "WrongName" = some (some (.ref (He.ga K "WrongName")))) ∧ (PySem.W.nsIn K mainGlobals "NoAnswer" = some (some (.ref (He.ga K "NoAnswer")))) ∧ (PySem.W.nsIn K mainGlobals "ValueError" = some none)
abbrev Ex16 (K : PySem.W.Frag) : Prop := (PySem.W.nsIn K mainGlobals "LookupError" = some none) ∧ (PySem.W.nsIn K mainGlobals "ArithmeticError" = some none) ∧ (PySem.W.specialIn K (.builtin "object.__class__") "__get__" = some (some (.builtin "getset_descriptor.__get__"))) ∧ (PySem.W.takesIn K (.builtin "object.__class__") = some true) ∧ (PySem.W.excInitIn K (He.ga K "InvalidNumber") [.type "ValueError", .type "Exception", .type "BaseException", .type "object"] "ValueError.__new__" = true) ∧ (PySem.W.excOver K (He.ga K "InvalidNumber") [.type "ValueError", .type "Exception", .type "BaseException", .type "object"] = true) ∧ (PySem.W.findIn K (.ref (He.ga K "InvalidNumber")) "__setattr__" = some (some (.builtin "object.__setattr__"))) ∧ (PySem.W.findIn K (.ref (He.ga K "InvalidNumber")) "__getattribute__" = some (some (.builtin "BaseException.__getattribute__"))) ∧ (PySem.W.findIn K (.ref (He.ga K "InvalidNumber")) "__getattr__" = some none) ∧ (PySem.W.findIn K (.ref (He.ga K "InvalidNumber")) "__class__" = some (some (.builtin "object.__class__"))) ∧ (PySem.W.findIn K (.ref (He.ga K "InvalidNumber")) "given" = some none) ∧ (PySem.W.subIn K (.ref (He.ga K "InvalidNumber")) (.type "BaseException") = some true)
abbrev Ex17 (K : PySem.W.Frag) : Prop := (PySem.W.typeIn K (.ref (He.ga K "InvalidNumber")) = some (.type "type")) ∧ (PySem.W.keepIn K (.ref (He.ga K "InvalidNumber")) = true) ∧ (PySem.W.isClsIn K (He.ga K "InvalidNumber") = true) ∧ (PySem.W.mroIn K (He.ga K "InvalidNumber") (.type "object") = some true) ∧ (PySem.W.hasDictIn K (He.ga K "InvalidNumber") = true) ∧ (PySem.W.findIn K (.ref (He.ga K "InvalidNumber")) "__init__" = some (some (.ref (He.ma K (He.ga K "InvalidNumber") "__init__")))) ∧ (PySem.W.keepIn K (.ref (He.ma K (He.ga K "InvalidNumber") "__init__")) = true) ∧ (PySem.W.typeIn K (.ref (He.ma K (He.ga K "InvalidNumber") "__init__")) = some (.type "function")) ∧ (PySem.W.kitOne K (.ref (He.ga K "InvalidNumber")) (.ref (He.ga K "InvalidText")) = some false) ∧ (PySem.W.kitOne K (.ref (He.ga K "InvalidNumber")) (.ref (He.ga K "InvalidNumber")) = some true) ∧ (PySem.W.kitOne K (.ref (He.ga K "InvalidNumber")) (.ref (He.ga K "InvalidName")) = some false) ∧ (PySem.W.kitOne K (.ref (He.ga K "InvalidNumber")) (.ref (He.ga K "InvalidShare")) = some false)
abbrev Ex18 (K : PySem.W.Frag) : Prop := (PySem.W.kitOne K (.ref (He.ga K "InvalidNumber")) (.ref (He.ga K "InvalidStanding")) = some false) ∧ (PySem.W.kitOne K (.ref (He.ga K "InvalidNumber")) (.ref (He.ga K "NotALot")) = some false) ∧ (PySem.W.kitOne K (.ref (He.ga K "InvalidNumber")) (.ref (He.ga K "InvalidLog")) = some false) ∧ (PySem.W.kitOne K (.ref (He.ga K "InvalidNumber")) (.ref (He.ga K "InvalidForms")) = some false) ∧ (PySem.W.kitOne K (.ref (He.ga K "InvalidNumber")) (.ref (He.ga K "UnknownName")) = some false) ∧ (PySem.W.kitOne K (.ref (He.ga K "InvalidNumber")) (.ref (He.ga K "TooMany")) = some false) ∧ (PySem.W.kitOne K (.ref (He.ga K "InvalidNumber")) (.ref (He.ga K "Alone")) = some false) ∧ (PySem.W.kitOne K (.ref (He.ga K "InvalidNumber")) (.ref (He.ga K "WrongValue")) = some true) ∧ (PySem.W.kitOne K (.ref (He.ga K "InvalidNumber")) (.ref (He.ga K "WrongName")) = some false) ∧ (PySem.W.kitOne K (.ref (He.ga K "InvalidNumber")) (.ref (He.ga K "NoAnswer")) = some false) ∧ (PySem.W.kitOne K (.ref (He.ga K "InvalidNumber")) (.type "ValueError") = some true) ∧ (PySem.W.kitOne K (.ref (He.ga K "InvalidNumber")) (.type "LookupError") = some false)
abbrev Ex19 (K : PySem.W.Frag) : Prop := (PySem.W.kitOne K (.ref (He.ga K "InvalidNumber")) (.type "ArithmeticError") = some false) ∧ (PySem.W.exmAny K (.ref (He.ga K "InvalidNumber")) [.ref (He.ga K "WrongValue"), .ref (He.ga K "WrongName"), .ref (He.ga K "NoAnswer")] = some true) ∧ (PySem.W.excInitIn K (He.ga K "InvalidStanding") [.type "ValueError", .type "Exception", .type "BaseException", .type "object"] "ValueError.__new__" = true) ∧ (PySem.W.excOver K (He.ga K "InvalidStanding") [.type "ValueError", .type "Exception", .type "BaseException", .type "object"] = true) ∧ (PySem.W.findIn K (.ref (He.ga K "InvalidStanding")) "__setattr__" = some (some (.builtin "object.__setattr__"))) ∧ (PySem.W.findIn K (.ref (He.ga K "InvalidStanding")) "__getattribute__" = some (some (.builtin "BaseException.__getattribute__"))) ∧ (PySem.W.findIn K (.ref (He.ga K "InvalidStanding")) "__getattr__" = some none) ∧ (PySem.W.findIn K (.ref (He.ga K "InvalidStanding")) "__class__" = some (some (.builtin "object.__class__"))) ∧ (PySem.W.findIn K (.ref (He.ga K "InvalidStanding")) "given" = some none) ∧ (PySem.W.subIn K (.ref (He.ga K "InvalidStanding")) (.type "BaseException") = some true) ∧ (PySem.W.typeIn K (.ref (He.ga K "InvalidStanding")) = some (.type "type")) ∧ (PySem.W.keepIn K (.ref (He.ga K "InvalidStanding")) = true)
abbrev Ex20 (K : PySem.W.Frag) : Prop := (PySem.W.isClsIn K (He.ga K "InvalidStanding") = true) ∧ (PySem.W.mroIn K (He.ga K "InvalidStanding") (.type "object") = some true) ∧ (PySem.W.hasDictIn K (He.ga K "InvalidStanding") = true) ∧ (PySem.W.findIn K (.ref (He.ga K "InvalidStanding")) "__init__" = some (some (.ref (He.ma K (He.ga K "InvalidStanding") "__init__")))) ∧ (PySem.W.keepIn K (.ref (He.ma K (He.ga K "InvalidStanding") "__init__")) = true) ∧ (PySem.W.typeIn K (.ref (He.ma K (He.ga K "InvalidStanding") "__init__")) = some (.type "function")) ∧ (PySem.W.kitOne K (.ref (He.ga K "InvalidStanding")) (.ref (He.ga K "InvalidText")) = some false) ∧ (PySem.W.kitOne K (.ref (He.ga K "InvalidStanding")) (.ref (He.ga K "InvalidNumber")) = some false) ∧ (PySem.W.kitOne K (.ref (He.ga K "InvalidStanding")) (.ref (He.ga K "InvalidName")) = some false) ∧ (PySem.W.kitOne K (.ref (He.ga K "InvalidStanding")) (.ref (He.ga K "InvalidShare")) = some false) ∧ (PySem.W.kitOne K (.ref (He.ga K "InvalidStanding")) (.ref (He.ga K "InvalidStanding")) = some true) ∧ (PySem.W.kitOne K (.ref (He.ga K "InvalidStanding")) (.ref (He.ga K "NotALot")) = some false)
abbrev Ex21 (K : PySem.W.Frag) : Prop := (PySem.W.kitOne K (.ref (He.ga K "InvalidStanding")) (.ref (He.ga K "InvalidLog")) = some false) ∧ (PySem.W.kitOne K (.ref (He.ga K "InvalidStanding")) (.ref (He.ga K "InvalidForms")) = some false) ∧ (PySem.W.kitOne K (.ref (He.ga K "InvalidStanding")) (.ref (He.ga K "UnknownName")) = some false) ∧ (PySem.W.kitOne K (.ref (He.ga K "InvalidStanding")) (.ref (He.ga K "TooMany")) = some false) ∧ (PySem.W.kitOne K (.ref (He.ga K "InvalidStanding")) (.ref (He.ga K "Alone")) = some false) ∧ (PySem.W.kitOne K (.ref (He.ga K "InvalidStanding")) (.ref (He.ga K "WrongValue")) = some true) ∧ (PySem.W.kitOne K (.ref (He.ga K "InvalidStanding")) (.ref (He.ga K "WrongName")) = some false) ∧ (PySem.W.kitOne K (.ref (He.ga K "InvalidStanding")) (.ref (He.ga K "NoAnswer")) = some false) ∧ (PySem.W.kitOne K (.ref (He.ga K "InvalidStanding")) (.type "ValueError") = some true) ∧ (PySem.W.kitOne K (.ref (He.ga K "InvalidStanding")) (.type "LookupError") = some false) ∧ (PySem.W.kitOne K (.ref (He.ga K "InvalidStanding")) (.type "ArithmeticError") = some false) ∧ (PySem.W.exmAny K (.ref (He.ga K "InvalidStanding")) [.ref (He.ga K "WrongValue"), .ref (He.ga K "WrongName"), .ref (He.ga K "NoAnswer")] = some true)
abbrev Ex22 (K : PySem.W.Frag) : Prop := (PySem.W.excInitIn K (He.ga K "NotALot") [.type "ValueError", .type "Exception", .type "BaseException", .type "object"] "ValueError.__new__" = true) ∧ (PySem.W.excOver K (He.ga K "NotALot") [.type "ValueError", .type "Exception", .type "BaseException", .type "object"] = true) ∧ (PySem.W.findIn K (.ref (He.ga K "NotALot")) "__setattr__" = some (some (.builtin "object.__setattr__"))) ∧ (PySem.W.findIn K (.ref (He.ga K "NotALot")) "__getattribute__" = some (some (.builtin "BaseException.__getattribute__"))) ∧ (PySem.W.findIn K (.ref (He.ga K "NotALot")) "__getattr__" = some none) ∧ (PySem.W.findIn K (.ref (He.ga K "NotALot")) "__class__" = some (some (.builtin "object.__class__"))) ∧ (PySem.W.findIn K (.ref (He.ga K "NotALot")) "given" = some none) ∧ (PySem.W.subIn K (.ref (He.ga K "NotALot")) (.type "BaseException") = some true) ∧ (PySem.W.typeIn K (.ref (He.ga K "NotALot")) = some (.type "type")) ∧ (PySem.W.keepIn K (.ref (He.ga K "NotALot")) = true) ∧ (PySem.W.isClsIn K (He.ga K "NotALot") = true) ∧ (PySem.W.mroIn K (He.ga K "NotALot") (.type "object") = some true)
abbrev Ex23 (K : PySem.W.Frag) : Prop := (PySem.W.hasDictIn K (He.ga K "NotALot") = true) ∧ (PySem.W.findIn K (.ref (He.ga K "NotALot")) "__init__" = some (some (.ref (He.ma K (He.ga K "NotALot") "__init__")))) ∧ (PySem.W.keepIn K (.ref (He.ma K (He.ga K "NotALot") "__init__")) = true) ∧ (PySem.W.typeIn K (.ref (He.ma K (He.ga K "NotALot") "__init__")) = some (.type "function")) ∧ (PySem.W.kitOne K (.ref (He.ga K "NotALot")) (.ref (He.ga K "InvalidText")) = some false) ∧ (PySem.W.kitOne K (.ref (He.ga K "NotALot")) (.ref (He.ga K "InvalidNumber")) = some false) ∧ (PySem.W.kitOne K (.ref (He.ga K "NotALot")) (.ref (He.ga K "InvalidName")) = some false) ∧ (PySem.W.kitOne K (.ref (He.ga K "NotALot")) (.ref (He.ga K "InvalidShare")) = some false) ∧ (PySem.W.kitOne K (.ref (He.ga K "NotALot")) (.ref (He.ga K "InvalidStanding")) = some false) ∧ (PySem.W.kitOne K (.ref (He.ga K "NotALot")) (.ref (He.ga K "NotALot")) = some true) ∧ (PySem.W.kitOne K (.ref (He.ga K "NotALot")) (.ref (He.ga K "InvalidLog")) = some false) ∧ (PySem.W.kitOne K (.ref (He.ga K "NotALot")) (.ref (He.ga K "InvalidForms")) = some false)
abbrev Ex24 (K : PySem.W.Frag) : Prop := (PySem.W.kitOne K (.ref (He.ga K "NotALot")) (.ref (He.ga K "UnknownName")) = some false) ∧ (PySem.W.kitOne K (.ref (He.ga K "NotALot")) (.ref (He.ga K "TooMany")) = some false) ∧ (PySem.W.kitOne K (.ref (He.ga K "NotALot")) (.ref (He.ga K "Alone")) = some false) ∧ (PySem.W.kitOne K (.ref (He.ga K "NotALot")) (.ref (He.ga K "WrongValue")) = some true) ∧ (PySem.W.kitOne K (.ref (He.ga K "NotALot")) (.ref (He.ga K "WrongName")) = some false) ∧ (PySem.W.kitOne K (.ref (He.ga K "NotALot")) (.ref (He.ga K "NoAnswer")) = some false) ∧ (PySem.W.kitOne K (.ref (He.ga K "NotALot")) (.type "ValueError") = some true) ∧ (PySem.W.kitOne K (.ref (He.ga K "NotALot")) (.type "LookupError") = some false) ∧ (PySem.W.kitOne K (.ref (He.ga K "NotALot")) (.type "ArithmeticError") = some false) ∧ (PySem.W.exmAny K (.ref (He.ga K "NotALot")) [.ref (He.ga K "WrongValue"), .ref (He.ga K "WrongName"), .ref (He.ga K "NoAnswer")] = some true) ∧ (PySem.W.excInitIn K (He.ga K "TooMany") [.type "ArithmeticError", .type "Exception", .type "BaseException", .type "object"] "ArithmeticError.__new__" = true) ∧ (PySem.W.excOver K (He.ga K "TooMany") [.type "ArithmeticError", .type "Exception", .type "BaseException", .type "object"] = true)
abbrev Ex25 (K : PySem.W.Frag) : Prop := (PySem.W.findIn K (.ref (He.ga K "TooMany")) "__setattr__" = some (some (.builtin "object.__setattr__"))) ∧ (PySem.W.findIn K (.ref (He.ga K "TooMany")) "__getattribute__" = some (some (.builtin "BaseException.__getattribute__"))) ∧ (PySem.W.findIn K (.ref (He.ga K "TooMany")) "__getattr__" = some none) ∧ (PySem.W.findIn K (.ref (He.ga K "TooMany")) "__class__" = some (some (.builtin "object.__class__"))) ∧ (PySem.W.findIn K (.ref (He.ga K "TooMany")) "limit" = some none) ∧ (PySem.W.subIn K (.ref (He.ga K "TooMany")) (.type "BaseException") = some true) ∧ (PySem.W.typeIn K (.ref (He.ga K "TooMany")) = some (.type "type")) ∧ (PySem.W.keepIn K (.ref (He.ga K "TooMany")) = true) ∧ (PySem.W.isClsIn K (He.ga K "TooMany") = true) ∧ (PySem.W.mroIn K (He.ga K "TooMany") (.type "object") = some true) ∧ (PySem.W.hasDictIn K (He.ga K "TooMany") = true) ∧ (PySem.W.findIn K (.ref (He.ga K "TooMany")) "__init__" = some (some (.ref (He.ma K (He.ga K "TooMany") "__init__"))))
abbrev Ex26 (K : PySem.W.Frag) : Prop := (PySem.W.keepIn K (.ref (He.ma K (He.ga K "TooMany") "__init__")) = true) ∧ (PySem.W.typeIn K (.ref (He.ma K (He.ga K "TooMany") "__init__")) = some (.type "function")) ∧ (PySem.W.kitOne K (.ref (He.ga K "TooMany")) (.ref (He.ga K "InvalidText")) = some false) ∧ (PySem.W.kitOne K (.ref (He.ga K "TooMany")) (.ref (He.ga K "InvalidNumber")) = some false) ∧ (PySem.W.kitOne K (.ref (He.ga K "TooMany")) (.ref (He.ga K "InvalidName")) = some false) ∧ (PySem.W.kitOne K (.ref (He.ga K "TooMany")) (.ref (He.ga K "InvalidShare")) = some false) ∧ (PySem.W.kitOne K (.ref (He.ga K "TooMany")) (.ref (He.ga K "InvalidStanding")) = some false) ∧ (PySem.W.kitOne K (.ref (He.ga K "TooMany")) (.ref (He.ga K "NotALot")) = some false) ∧ (PySem.W.kitOne K (.ref (He.ga K "TooMany")) (.ref (He.ga K "InvalidLog")) = some false) ∧ (PySem.W.kitOne K (.ref (He.ga K "TooMany")) (.ref (He.ga K "InvalidForms")) = some false) ∧ (PySem.W.kitOne K (.ref (He.ga K "TooMany")) (.ref (He.ga K "UnknownName")) = some false) ∧ (PySem.W.kitOne K (.ref (He.ga K "TooMany")) (.ref (He.ga K "TooMany")) = some true)
abbrev Ex27 (K : PySem.W.Frag) : Prop := (PySem.W.kitOne K (.ref (He.ga K "TooMany")) (.ref (He.ga K "Alone")) = some false) ∧ (PySem.W.kitOne K (.ref (He.ga K "TooMany")) (.ref (He.ga K "WrongValue")) = some false) ∧ (PySem.W.kitOne K (.ref (He.ga K "TooMany")) (.ref (He.ga K "WrongName")) = some false) ∧ (PySem.W.kitOne K (.ref (He.ga K "TooMany")) (.ref (He.ga K "NoAnswer")) = some true) ∧ (PySem.W.kitOne K (.ref (He.ga K "TooMany")) (.type "ValueError") = some false) ∧ (PySem.W.kitOne K (.ref (He.ga K "TooMany")) (.type "LookupError") = some false) ∧ (PySem.W.kitOne K (.ref (He.ga K "TooMany")) (.type "ArithmeticError") = some true) ∧ (PySem.W.exmAny K (.ref (He.ga K "TooMany")) [.ref (He.ga K "WrongValue"), .ref (He.ga K "WrongName"), .ref (He.ga K "NoAnswer")] = some true) ∧ (PySem.W.nsIn K mainGlobals "MOST_WORKS" = some (some (.int 6 (tokAd K "MOST_WORKS")))) ∧ (PySem.W.nsIn K mainGlobals "MOST_HANDS" = some (some (.int 6 (tokAd K "MOST_HANDS")))) ∧ (PySem.W.nsIn K mainGlobals "MOST_PERIOD" = some (some (.int 16 (tokAd K "MOST_PERIOD")))) ∧ (PySem.W.nsIn K mainGlobals "LONGEST_NAME" = some (some (.int 8 (tokAd K "LONGEST_NAME"))))
abbrev Ex28 (K : PySem.W.Frag) : Prop := (PySem.W.nsIn K mainGlobals "LETTERS" = some (some (.str (Str.ofString "abcdefghijklmnopqrstuvwxyz") (tokAd K "LETTERS")))) ∧ (PySem.W.nsIn K mainGlobals "FARTHEST" = some (some (.int 1000000000000000000000000000000 (tokAd K "FARTHEST")))) ∧ (PySem.W.nsIn K mainGlobals "MOST_ROUND" = some (some (.int 720 (tokAd K "MOST_ROUND")))) ∧ (PySem.W.nsIn K mainGlobals "len" = some none) ∧ (PySem.W.nsIn K mainGlobals "range" = some none) ∧ (PySem.W.nsIn K mainGlobals "abs" = some none) ∧ (PySem.W.nsIn K mainGlobals "divmod" = some none) ∧ (PySem.W.nsIn K mainGlobals "int" = some none) ∧ (PySem.W.nsIn K mainGlobals "str" = some none) ∧ (PySem.W.nsIn K mainGlobals "bool" = some none) ∧ (PySem.W.nsIn K mainGlobals "repr" = some none) ∧ (PySem.W.nsIn K mainGlobals "isinstance" = some none)
abbrev Ex29 (K : PySem.W.Frag) : Prop := (PySem.W.nsIn K mainGlobals "tuple" = some none) ∧ (PySem.W.nsIn K mainGlobals "list" = some none) ∧ (PySem.W.nsIn K mainGlobals "dict" = some none) ∧ (PySem.W.nsIn K mainGlobals "zip" = some none) ∧ (PySem.W.nsIn K mainGlobals "sum" = some none) ∧ (PySem.W.nsIn K mainGlobals "all" = some none) ∧ (PySem.W.nsIn K mainGlobals "max" = some none) ∧ (PySem.W.nsIn K mainGlobals "min" = some none) ∧ (PySem.W.nsIn K mainGlobals "sorted" = some none) ∧ (PySem.W.nsIn K mainGlobals "set" = some none) ∧ (PySem.W.nsIn K mainGlobals "enumerate" = some none) ∧ (PySem.W.nsIn K mainGlobals "gcd" = some (some (.builtin "math.gcd")))
abbrev Ex30 (K : PySem.W.Frag) : Prop := (PySem.W.nsIn K mainGlobals "lcm" = some (some (.builtin "math.lcm")))
def exF (K : PySem.W.Frag) : Bool := decide (Ex0 K) && (decide (Ex1 K) && (decide (Ex2 K) && (decide (Ex3 K) && (decide (Ex4 K) && (decide (Ex5 K) && (decide (Ex6 K) && (decide (Ex7 K) && (decide (Ex8 K) && (decide (Ex9 K) && (decide (Ex10 K) && (decide (Ex11 K) && (decide (Ex12 K) && (decide (Ex13 K) && (decide (Ex14 K) && (decide (Ex15 K) && (decide (Ex16 K) && (decide (Ex17 K) && (decide (Ex18 K) && (decide (Ex19 K) && (decide (Ex20 K) && (decide (Ex21 K) && (decide (Ex22 K) && (decide (Ex23 K) && (decide (Ex24 K) && (decide (Ex25 K) && (decide (Ex26 K) && (decide (Ex27 K) && (decide (Ex28 K) && (decide (Ex29 K) && (decide (Ex30 K)))))))))))))))))))))))))))))))
def tfF : List (PySem.W.Frag → Addr × Addr) := [fun K => (codeAd K (He.ga K "_law_right"), tabAd K (codeAd K (He.ga K "_law_right")))]
def nmF0 : List Str := ["_wall", "crew_of", "members_of", "sizes_of_crews", "parts_of_crews", "WrongValue", "InvalidText", "InvalidNumber", "InvalidName", "InvalidShare", "InvalidStanding", "NotALot", "InvalidLog", "InvalidForms", "WrongName", "UnknownName", "NoAnswer", "TooMany", "Alone", "MOST_WORKS"]
def nmF1 : List Str := ["MOST_HANDS", "MOST_PERIOD", "MOST_ROUND", "LETTERS", "LONGEST_NAME", "FARTHEST", "is_number", "is_number_from", "is_name", "is_share", "check_number", "check_moment", "Lot", "check_lot", "check_round", "_read_hands", "_read_works", "_read_work", "_read_number", "_text_of"]
def nmF2 : List Str := ["_span_of", "_total_of", "all_picks", "turns_of", "_quotient_up", "Walk", "round_of", "_grown_between", "_living_of", "_standings_before", "standings", "alive", "choices", "check_standing", "ahead_in", "_numbers_at", "_law_basin", "_law_ladle", "_law_tags", "_law_lowest"]
def nmF3 : List Str := ["_law_part", "_law_jobs", "_law_page", "_law_cycle", "_law_within", "_law_bases", "_law_class", "_law_heard", "_law_same", "_law_no_lot", "_law_kept", "_law_row", "_law_is_row", "_law_right"]
def nmF : List Str := nmF0 ++ nmF1 ++ nmF2 ++ nmF3
abbrev rwF : PySem.W.OpenRow := PySem.W.OpenLaw.row PySem.Challenge.rw_tickshares_k17_errors_of_standings_in_or
abbrev vwF : Program := PySem.W.view rwF.prog [0, 84]
def asF0 : List Addr := [3, 6, 4, 49, 54, 59, 64, 69, 86, 106, 125, 144, 163, 182, 201, 220, 239, 258, 278, 297, 317, 336, 345, 352, 357, 364, 371, 378, 485, 496, 503, 510, 517, 522, 529, 534, 541, 546, 551, 558]
def asF1 : List Addr := [565, 618, 629, 634, 639, 644, 649, 654, 659, 666, 671, 676, 683, 690, 695, 702, 709, 714, 721, 728, 735, 742, 749, 756, 761, 768, 773, 778, 785, 792, 799, 0, 48, 53, 58, 63, 68, 85, 105, 124]
def asF2 : List Addr := [143, 162, 181, 200, 219, 238, 257, 277, 296, 316, 335, 344, 351, 356, 363, 370, 377, 484, 495, 502, 509, 516, 521, 528, 533, 540, 545, 550, 557, 564, 617, 628, 633, 638, 643, 648, 653, 658, 665, 670]
def asF3 : List Addr := [675, 682, 689, 694, 701, 708, 713, 720, 727, 734, 741, 748, 755, 760, 767, 772, 777, 784, 791, 798, 43, 44, 45, 46, 47, 50, 51, 52, 55, 56, 57, 60, 61, 62, 65, 66, 67, 83, 84, 87]
def asF4 : List Addr := [103, 104, 122, 123, 141, 142, 160, 161, 179, 180, 198, 199, 217, 218, 236, 237, 255, 256, 259, 275, 276, 294, 295, 298, 314, 315, 333, 334, 339, 340, 341, 342, 343, 346, 347, 348, 349, 350, 353, 354]
def asF5 : List Addr := [355, 358, 359, 360, 361, 362, 365, 366, 367, 368, 369, 372, 373, 374, 375, 376, 392, 400, 408, 416, 424, 432, 440, 447, 454, 461, 468, 475, 482, 483, 486, 487, 490, 491, 492, 493, 494, 497, 498, 499]
def asF6 : List Addr := [500, 501, 504, 505, 506, 507, 508, 511, 512, 513, 514, 515, 518, 519, 520, 523, 524, 525, 526, 527, 530, 531, 532, 535, 536, 537, 538, 539, 542, 543, 544, 547, 548, 549, 552, 553, 554, 555, 556, 559]
def asF7 : List Addr := [560, 561, 562, 563, 577, 584, 589, 594, 601, 608, 615, 616, 619, 620, 623, 624, 625, 626, 627, 630, 631, 632, 635, 636, 637, 640, 641, 642, 645, 646, 647, 650, 651, 652, 655, 656, 657, 660, 661, 662]
def asF8 : List Addr := [663, 664, 667, 668, 669, 672, 673, 674, 677, 678, 679, 680, 681, 684, 685, 686, 687, 688, 691, 692, 693, 696, 697, 698, 699, 700, 703, 704, 705, 706, 707, 710, 711, 712, 715, 716, 717, 718, 719, 722]
def asF9 : List Addr := [723, 724, 725, 726, 729, 730, 731, 732, 733, 736, 737, 738, 739, 740, 743, 744, 745, 746, 747, 750, 751, 752, 753, 754, 757, 758, 759, 762, 763, 764, 765, 766, 769, 770, 771, 774, 775, 776, 779, 780]
def asF10 : List Addr := [781, 782, 783, 786, 787, 788, 789, 790, 793, 794, 795, 796, 797, 82, 102, 121, 140, 159, 178, 197, 216, 235, 254, 274, 293, 313, 332, 391, 399, 407, 415, 423, 431, 439, 446, 453, 460, 467, 474, 481]
def asF11 : List Addr := [576, 583, 588, 593, 600, 607, 614, 77, 78, 79, 80, 81, 97, 98, 99, 100, 101, 116, 117, 118, 119, 120, 135, 136, 137, 138, 139, 154, 155, 156, 157, 158, 173, 174, 175, 176, 177, 192, 193, 194]
def asF12 : List Addr := [195, 196, 211, 212, 213, 214, 215, 230, 231, 232, 233, 234, 249, 250, 251, 252, 253, 269, 270, 271, 272, 273, 288, 289, 290, 291, 292, 308, 309, 310, 311, 312, 327, 328, 329, 330, 331, 386, 387, 388]
def asF13 : List Addr := [389, 390, 398, 406, 414, 422, 430, 438, 441, 442, 443, 444, 445, 448, 449, 450, 451, 452, 455, 456, 457, 458, 459, 462, 463, 464, 465, 466, 469, 470, 471, 472, 473, 476, 477, 478, 479, 480, 573, 574]
def asF14 : List Addr := [575, 578, 579, 580, 581, 582, 585, 586, 587, 590, 591, 592, 595, 596, 597, 598, 599, 602, 603, 604, 605, 606, 609, 610, 611, 612, 613, 393, 394, 395, 396, 397, 401, 402, 403, 404, 405, 409, 410, 411]
def asF15 : List Addr := [412, 413, 417, 418, 419, 420, 421, 425, 426, 427, 428, 429, 433, 434, 435, 436, 437]
def asF : List Addr := asF0 ++ asF1 ++ asF2 ++ asF3 ++ asF4 ++ asF5 ++ asF6 ++ asF7 ++ asF8 ++ asF9 ++ asF10 ++ asF11 ++ asF12 ++ asF13 ++ asF14 ++ asF15
--RUN
set_option maxHeartbeats 0 in
theorem runA (w : World) : (topF rwF 20000 (w)).map (fun x => (HandSHeadRun.looksF rwF.prog x.1.heap x.2.abs, HandSHeadRun.seenQ vwF nmF (importedModules rwF.prog.main.body) (fun s => PySem.W.xlAt vwF [] s && PySem.W.recOk rwF.toRowW.records s) x.2.abs)) = some (true, PySem.W.openGood vwF nmF) := by
  kernel_rfl
set_option maxHeartbeats 0 in
theorem runB (w : World) : (topF rwF 20000 (w)).map (fun x => viewF asF fnF tfF exF (HandSHeadRun.getT x.2)) = some (dueF fnF) := by
  kernel_rfl
set_option maxHeartbeats 0 in
theorem runF (w : World) : HandSHeadRun.RunEqI rwF vwF (hookF asF fnF tfF exF) (fun s => viewF asF fnF tfF exF (HandSHeadRun.getT s)) 20000 nmF w := run_two (runA w) (runB w)
end Ts
namespace Ts
open PySem PySem.Spec PyProof.Rows L2
section
variable {P : Program} {w : World} {K : PySem.W.Frag} {mg : Str → Option Value} {base : Heap}
theorem has_ladle (D : DefAt K mg "_law_ladle" s__law_ladle) (B : Blt0 mg) : Has P w K mg base 1 "_law_ladle" ["_law_basin_here", "_law_many"] spLadle := by
  refine D.has (fun _ _ _ _ _ _ us hl => match us, hl with | [_, _], _ => rfl) fun f fd F => F.ok sc__law_ladle (fun vs H Q E h => ?_) (fun cdv A outer s H vs Q E hr h => ?_)
  · obtain ⟨b, m, rfl, _⟩ := h; rfl
  obtain ⟨b, m, rfl, ⟨x, y, z, hb⟩, hm0, hm1, q⟩ := h
  refine ⟨_, (pss_cons (ps_if (pt_cmpR op_gt (pe_ix ix_list (pv 0) pe_int (fun _ _ => rfl)) pe_int (nomark _)) (pss_cons (ps_asg (pe_callB call_divmod (by rfl) B.zdivmod (by decide +kernel) (pa_cons (pe_ix ix_list (pv 0) pe_int (fun _ _ => rfl)) (pa_cons (pv 1) pa_nil))) (pg_tup rfl (pgs_cons (pg_sub (pv 0) pe_int set_list) (pgs_cons (pg_name (i := 2) sc__law_ladle.nd rfl (.inl rfl)) pgs_nil))))
      (pss_one (ps_ret (pv 2)))) pss_nil)
      (pss_cons (ps_asg (pe_op op_add (pe_ix ix_list (pv 0) pe_int (fun _ _ => rfl)) pe_int) (pg_sub (pv 0) pe_int set_list))
      (pss_cons (ps_set (i := 3) sc__law_ladle.nd rfl (.inl rfl) (pe_op op_add (pe_op op_mul (pe_ix ix_list (pv 0) pe_int (fun _ _ => rfl)) pe_int) (pe_op op_mul pe_int (pe_ix ix_list (pv 0) pe_int (fun _ _ => rfl)))))
      (pss_cons (ps_asg (pe_op op_mod (pe_callTy call_int1 (by rfl) B.zint (by decide +kernel) (pa_cons (pv 3) pa_nil)) pe_int) (pg_sub (pv 0) pe_int set_list))
      (pss_one (ps_ret (pe_op op_mod (pe_callTy call_int1 (by rfl) B.zint (by decide +kernel) (pa_cons (pe_op op_fdiv (pe_ix ix_list (pv 0) pe_int (fun _ _ => rfl)) pe_int) pa_nil)) (pv 1)))))))), ?_⟩
  refine ⟨_, rfl, b, _, 0, .int x, rfl, rfl, SqL.of hb, rfl, _, _, rfl, rfl, _, rfl, ?_⟩
  refine ite2 (fun c => ?_) (fun c => ?_)
  · -- a digit of the great cell
    refine ⟨_, rfl, b, _, 0, .int x, rfl, rfl, SqL.of hb, rfl, _, rfl, x, m, rfl, ⟨hm0, hm1⟩, fun p hp => ?_⟩
    have hbp : b ≠ p := ne_of_none hb hp
    refine ⟨p, _, rfl, SqT.of upd_same, rfl, _, _, rfl, _, rfl, b, [.int x, .int y, .int z], 0, 0, rfl, rfl, (by rw [upd_ne hbp]; exact hb), rfl, ?_⟩
    refine ⟨_, _, rfl, rfl, _, rfl, q _ _ (Int.emod_nonneg _ (by omega)) (Int.emod_lt_of_pos _ hm0) ?_ ⟨_, _, _, upd_same⟩⟩
    exact (But.of_same (same_new hp)).trans But.set
  · -- b[2] = b[2] + 1
    refine ⟨_, rfl, b, _, 2, .int z, rfl, rfl, SqL.of hb, rfl, _, _, rfl, rfl, _, rfl, b, _, 2, 2, rfl, rfl, hb, rfl, ?_⟩
    -- the swirled number
    refine ⟨_, rfl, b, _, 1, .int y, rfl, rfl, SqL.of upd_same, rfl, _, _, rfl, rfl, .inr ⟨by decide, by decide⟩, _, rfl, b, _, 2, .int (z + 1), rfl, rfl, SqL.of upd_same, rfl, _, _, rfl, rfl, .inl ⟨by decide, by decide⟩, _, _, rfl, rfl, ?_⟩
    -- b[1] = int(swirled) % ..
    refine ⟨_, rfl, .inl ⟨_, rfl, _, _, rfl, rfl, (by decide : (0 : Int) < _), _, rfl, b, _, 1, 1, rfl, rfl, upd_same, rfl, ?_⟩⟩
    -- int(b[1] // ..) % m
    refine ⟨_, rfl, b, _, 1, _, rfl, rfl, SqL.of upd_same, rfl, _, _, rfl, rfl, ⟨by decide, by decide⟩, .inl ⟨_, rfl, _, rfl, _, _, rfl, rfl, hm0, q _ _ (Int.emod_nonneg _ (by omega)) (Int.emod_lt_of_pos _ hm0) (But.set.trans But.set) ⟨_, _, _, upd_same⟩⟩⟩
theorem int_in {ns : List Int} {lo hi : Option Int} {o : Int} {i : Nat} {x : V} (h : (cutV (ns.map V.int) lo hi ++ [V.int o])[i]? = some x) : ∃ n, x = V.int n := by
  rcases List.mem_append.mp (List.mem_of_getElem? h) with m | m
  · unfold cutV at m
    obtain ⟨n, _, e⟩ := List.mem_map.mp (List.mem_of_mem_drop (List.mem_of_mem_take m))
    exact ⟨n, e.symm⟩
  · exact ⟨o, by simpa using m⟩
theorem has_basin (D : DefAt K mg "_law_basin" s__law_basin) (B : Blt0 mg) : Has P w K mg base 1 "_law_basin" ["_law_script", "_law_at"] (spBasin K) := by
  refine D.has (fun _ _ _ _ _ _ us hl => match us, hl with | [_, _], _ => rfl) fun f fd F => F.ok sc__law_basin (fun vs H Q E h => ?_) (fun cdv A outer s H vs Q E hr h => ?_)
  · obtain ⟨a, ns, i, rfl, _⟩ := h; rfl
  obtain ⟨a, ns, i, rfl, hS, hl, hi, q⟩ := h
  refine ⟨_, (pss_cons (ps_set (i := 2) sc__law_basin.nd rfl (.inl rfl) (pe_ifExp (pt_cmpR op_lt (pv 1) (pe_callB call_len_seq (by rfl) B.zlen (by decide +kernel) (pa_cons (pv 0) pa_nil)) (nomark _)) (pe_ix ix_list (pv 0) (pv 1) (fun _ _ => rfl)) (pe_op op_add (pe_op op_mul pe_int (pv 1)) pe_int)))
      (pss_cons (ps_set (i := 3) sc__law_basin.nd rfl (.inl rfl) (pe_op op_mul pe_int (pe_op op_add (pv 1) pe_int)))
      (pss_cons (ps_for PassesOwn.never rfl (pi_list (pe_op op_cat (pe_slice sl_list (pv 0) po_none (po_some pe_int)) (pe_lst (pa_cons (pv 2) pa_nil)))) (pg_name (i := 4) sc__law_basin.nd rfl (.inl rfl)) (pss_one (ps_set (i := 3) sc__law_basin.nd rfl (.inl rfl) (pe_op op_mod (pe_callTy call_int1 (by rfl) B.zint (by decide +kernel) (pa_cons (pe_op op_add (pe_op op_mul (pv 3) pe_int) (pv 4)) pa_nil)) pe_int))))
      (pss_one (ps_ret (pe_lst (pa_cons (pe_ifExp (pt_cmpR op_ge (pe_callB call_abs (by rfl) B.zabs (by decide +kernel) (pa_cons (pv 2) pa_nil)) (pe_op op_pow pe_int pe_int) (nomark _)) (pe_callB call_abs (by rfl) B.zabs (by decide +kernel) (pa_cons (pv 2) pa_nil)) pe_int) (pa_cons (pv 3) (pa_cons pe_int pa_nil))))))))), ?_⟩
  refine ⟨_, rfl, _, rfl, a, _, rfl, .inl hS, _, _, rfl, rfl, _, rfl, ite2 (fun c => ?own) (fun c => ?far)⟩
  case' own =>
    have c' : i < ns.length := by
      have := of_decide_eq_true c
      rw [List.length_map] at this
      omega
    refine ⟨_, rfl, _, rfl, a, _, i, .int ns[i], rfl, rfl, hS, atI_nat (by rw [List.getElem?_map, List.getElem?_eq_getElem c']; rfl), ?_⟩
    generalize ns[i] = o
  case' far =>
    refine ⟨_, rfl, _, _, rfl, rfl, .inl ⟨by decide, by decide⟩, _, _, rfl, rfl, ?_⟩
    show gName _ (V.int (41 * (i : Int) + 17)) _ _ _
    generalize 41 * (i : Int) + 17 = o
  all_goals
    -- swirled = .. * (at + 7)
    refine ⟨_, rfl, _, _, rfl, rfl, _, _, rfl, rfl, .inl ⟨by decide, by decide⟩, ?_⟩
    -- script[:5] + [own]
    refine ⟨_, rfl, _, rfl, a, _, rfl, hS, fun p hp => ⟨_, rfl, by show 1 ≤ sizeLine; decide, fun p2 hp2 => ?_⟩⟩
    obtain ⟨np, hp2'⟩ := upd_free hp2
    have s2 : Same H (upd (upd H p (.lst (cutV (ns.map V.int) none (some 5)))) p2 (.lst [.int o])) := (same_new hp).trans (same_new hp2)
    refine ⟨p, p2, _, _, rfl, rfl, by rw [upd_ne np.symm, upd_same], upd_same, ?_, fun p3 hp3 => ?_⟩
    · have z := cutV_length (ns.map V.int) none (some 5)
      rw [List.length_map] at z
      exact Nat.le_of_lt (small1000 (show _ + 1 ≤ 1000 by omega))
    have s3 := s2.trans (same_new (o := .lst (cutV (ns.map V.int) none (some 5) ++ [.int o])) hp3)
    refine ⟨p3, rfl, ⟨_, SqL.of upd_same⟩, for_list (K := K) (a := p3) (xs := cutV (ns.map V.int) none (some 5) ++ [.int o]) (fun _ σ H' => Same H H' ∧ H' p3 = some (.lst (cutV (ns.map V.int) none (some 5) ++ [.int o])) ∧ ∃ (z : Int) (v : Option V), σ = [some (.ref a), some (.int i), some (.int o), some (.int z), v])
      ⟨s3, upd_same, _, _, rfl⟩ (fun _ _ _ _ z => SqL.of z.2.1) ?_ ?_⟩
    · rintro j x σ H' hx ⟨sm, e3, z, v, rfl⟩
      obtain ⟨n, rfl⟩ := int_in hx
      exact ⟨_, rfl, _, _, rfl, rfl, .inr ⟨by decide, by decide⟩, _, rfl, _, _, rfl, rfl, .inl ⟨_, rfl, _, _, rfl, rfl, (by decide : (0 : Int) < _), sm, e3, _, _, rfl⟩⟩
    · rintro σ H' ⟨sm, e3, z, v, rfl⟩
      refine ⟨_, rfl, _, rfl, _, _, rfl, rfl, ⟨by decide, by decide, by decide⟩, _, _, rfl, rfl, _, rfl, ite2 (fun d => ?_) (fun d => ?_)⟩
      · exact ⟨_, rfl, _, rfl, _, rfl, by show 3 ≤ sizeLine; decide, fun p4 hp4 => q p4 _ (sm.free hp4) (sm.trans (same_new hp4)) ⟨_, _, _, upd_same⟩⟩
      · exact ⟨_, rfl, by show 3 ≤ sizeLine; decide, fun p4 hp4 => q p4 _ (sm.free hp4) (sm.trans (same_new hp4)) ⟨_, _, _, upd_same⟩⟩
theorem has_lowest (D : DefAt K mg "_law_lowest" s__law_lowest) (B : Blt0 mg) : Has P w K mg base 1 "_law_lowest" ["_law_top", "_law_bottom"] spLowest := by
  refine D.has (fun _ _ _ _ _ _ us hl => match us, hl with | [_, _], _ => rfl) fun f fd F => F.ok sc__law_lowest (fun vs H Q E h => ?_) (fun cdv A outer s H vs Q E hr h => ?_)
  · obtain ⟨a, b, rfl, _⟩ := h; rfl
  obtain ⟨a, b, rfl, hb0, hb1, q⟩ := h
  refine ⟨_, (pss_cons (ps_par (i := 2) (j := 3) (by rfl) sc__law_lowest.nd rfl rfl (by decide) rfl rfl (pa_cons (pv 0) (pa_cons (pv 1) pa_nil)) (by rfl))
      (pss_cons (ps_while PassesOwn.never (pt_cmpR op_gt (pv 3) pe_int (nomark _)) (pss_one (ps_par (i := 2) (j := 3) (by rfl) sc__law_lowest.nd rfl rfl (by decide) rfl rfl (pa_cons (pv 3) (pa_cons (pe_op op_mod (pe_callTy call_int1 (by rfl) B.zint (by decide +kernel) (pa_cons (pv 2) pa_nil)) (pv 3)) pa_nil)) (by rfl))))
      (pss_one (ps_ret (pe_tup (pa_cons (pe_op op_fdiv (pv 0) (pv 2)) (pa_cons (pe_op op_fdiv (pv 1) (pv 2)) pa_nil))))))), ?_⟩
  refine ⟨_, rfl, _, rfl, _, _, rfl, ?_⟩
  refine ⟨fun m σ H' => H' = H ∧ ∃ x y : Nat, m = y ∧ Nat.gcd x y = Nat.gcd a b ∧ σ = [some (.int a), some (.int b), some (.int x), some (.int y)], ⟨_, rfl, a, b, rfl, rfl, rfl⟩, ?_⟩
  rintro m σ H' ⟨rfl, x, y, rfl, hg, rfl⟩
  refine ⟨_, rfl, _, _, rfl, rfl, _, rfl, ite2 (fun c => ?_) (fun c => ?_)⟩
  · have hy : 0 < m := by have := of_decide_eq_true c; omega
    refine ⟨fun σ' H2 => H2 = H' ∧ ∃ x' y' : Nat, y' < m ∧ Nat.gcd x' y' = Nat.gcd a b ∧ σ' = [some (.int a), some (.int b), some (.int x'), some (.int y')], fun σ' H2 hN => ?_, ?_⟩
    · obtain ⟨rfl, x', y', hl, hg', rfl⟩ := hN
      exact ⟨y', hl, rfl, x', y', rfl, hg', rfl⟩
    · refine ⟨_, rfl, _, rfl, .inl ⟨_, rfl, _, rfl, _, _, rfl, rfl, (by show (0 : Int) < (m : Int); omega), _, _, rfl, rfl, m, x % m, Nat.mod_lt _ hy, ?_, rfl⟩⟩
      rw [← hg, Nat.gcd_comm m (x % m), ← Nat.gcd_rec, Nat.gcd_comm]
  · have hy : m = 0 := by
      have : ¬ (0 : Int) < (m : Int) := fun z => c (decide_eq_true z)
      omega
    subst hy
    rw [Nat.gcd_zero_right] at hg
    subst hg
    have g0 : 0 < Nat.gcd a b := Nat.gcd_pos_of_pos_right _ hb0
    have g1 : Nat.gcd a b ≤ b := Nat.le_of_dvd hb0 (Nat.gcd_dvd_right a b)
    have cd : CDiv (a : Int) ((Nat.gcd a b : Nat) : Int) := ⟨by omega, by omega⟩
    have cd2 : CDiv (b : Int) ((Nat.gcd a b : Nat) : Int) := ⟨by omega, by omega⟩
    exact ⟨_, rfl, _, rfl, _, _, rfl, rfl, cd, _, rfl, _, rfl, _, _, rfl, rfl, cd2, by show 2 ≤ sizeLine; decide, fun p hp => q p _ hp (same_new hp) upd_same⟩
theorem has_part (D : DefAt K mg "_law_part" s__law_part) (B : Blt0 mg) (h__law_ladle : Has P w K mg base 1 "_law_ladle" ["_law_basin_here", "_law_many"] spLadle)
    (h__law_lowest : Has P w K mg base 1 "_law_lowest" ["_law_top", "_law_bottom"] spLowest) : Has P w K mg base 2 "_law_part" ["_law_basin_here", "_law_most"] spPart := by
  refine D.has (fun _ _ _ _ _ _ us hl => match us, hl with | [_, _], _ => rfl) fun f fd F => F.ok sc__law_part (fun vs H Q E h => ?_) (fun cdv A outer s H vs Q E hr h => ?_)
  · obtain ⟨b, m, rfl, _⟩ := h; rfl
  obtain ⟨b, m, rfl, hB, hm0, hm1, q⟩ := h
  refine ⟨_, (pss_cons (ps_set (i := 2) sc__law_part.nd rfl (.inl rfl) (pe_op op_add pe_int (pe_h h__law_ladle (hr.mono (by decide)) (pa_cons (pv 0) (pa_cons (pv 1) pa_nil)))))
      (pss_one (ps_ret (pe_h h__law_lowest (hr.mono (by decide)) (pa_cons (pe_op op_add pe_int (pe_h h__law_ladle (hr.mono (by decide)) (pa_cons (pv 0) (pa_cons (pv 2) pa_nil)))) (pa_cons (pv 2) pa_nil)))))), ?_⟩
  refine ⟨_, rfl, _, rfl, b, (m : Int), rfl, hB, by omega, by omega, fun r H1 r0 r1 b1 B1 => ?_⟩
  obtain ⟨x, rfl⟩ := Int.eq_ofNat_of_zero_le r0
  refine ⟨_, _, rfl, rfl, ?_⟩
  refine ⟨_, rfl, _, rfl, b, (1 + (x : Int)), rfl, B1, by omega, by omega, fun r H2 r2 r3 b2 B2 => ?_⟩
  obtain ⟨y, rfl⟩ := Int.eq_ofNat_of_zero_le r2
  refine ⟨_, _, rfl, rfl, _, rfl, 1 + y, 1 + x, by simp, by omega, by omega, fun p H3 p0 s3 e3 => ?_⟩
  have g0 : 0 < Nat.gcd (1 + y) (1 + x) := Nat.gcd_pos_of_pos_right _ (by omega)
  refine q _ _ p H3 ⟨?_, Nat.div_le_div_right (by omega), Nat.le_trans (Nat.div_le_self _ _) (by omega), (by rw [Nat.gcd_div (Nat.gcd_dvd_left _ _) (Nat.gcd_dvd_right _ _), Nat.div_self g0])⟩ ?_ ((b1.trans b2).trans (But.of_same s3)) ?_ e3
  · exact Nat.div_pos (Nat.le_of_dvd (by omega) (Nat.gcd_dvd_left _ _)) g0
  · obtain ⟨u, v, z, e⟩ := B2
    exact (b1.trans b2).free (ne_of_none e p0) p0
  · obtain ⟨u, v, z, e⟩ := B2
    exact ⟨u, v, z, s3 _ _ e⟩
end
end Ts
namespace Ts
open PySem PySem.Spec PyProof.Rows L2
section
variable {P : Program} {w : World} {K : PySem.W.Frag} {mg : Str → Option Value} {base : Heap}
structure TagsAt (b pf ps : Addr) (H H' : Hp) (ts : List Str) : Prop where
  but : But b H H'
  bas : Bas H' b
  fb : pf ≠ b
  sb : ps ≠ b
  sf : ps ≠ pf
  fnd : H' pf = some (.lst (ts.map V.str))
  spr : H' ps = some (.lst (spareL.map V.str))
theorem TagsAt.next {b pf ps : Addr} {H H1 H2 : Hp} {ts : List Str} (T : TagsAt b pf ps H H1 ts) (x : But b H1 H2) (y : Bas H2 b) : TagsAt b pf ps H H2 ts :=
  ⟨T.but.trans x, y, T.fb, T.sb, T.sf, x _ _ T.fb T.fnd, x _ _ T.sb T.spr⟩
theorem TagsAt.new {b pf ps p : Addr} {o : HO} {H H1 : Hp} {ts : List Str} (T : TagsAt b pf ps H H1 ts) (hp : H1 p = none) : TagsAt b pf ps H (upd H1 p o) ts := by
  refine T.next (But.of_same (same_new hp)) ?_
  obtain ⟨x, y, z, e⟩ := T.bas
  exact ⟨x, y, z, same_new hp _ _ e⟩
theorem TagsAt.put {b pf ps : Addr} {H H1 : Hp} {ts : List Str} {t : Str} (T : TagsAt b pf ps H H1 ts) (hf : H pf = none) : TagsAt b pf ps H (upd H1 pf (.lst (ts.map V.str ++ [.str t]))) (ts ++ [t]) := by
  refine ⟨fun a o n e => ?_, ?_, T.fb, T.sb, T.sf, ?_, ?_⟩
  · rw [upd_ne (ne_of_none e hf)]; exact T.but a o n e
  · obtain ⟨x, y, z, e⟩ := T.bas
    exact ⟨x, y, z, by rw [upd_ne T.fb.symm]; exact e⟩
  · rw [upd_same, List.map_append]; rfl
  · rw [upd_ne T.sf]; exact T.spr
theorem abc_at {i c : Nat} (h : (Str.ofString "abcdefghijklmnopqrstuvwxyz").cps[i]? = some c) : i < 26 ∧ c = 97 + i := by
  have e : (Str.ofString "abcdefghijklmnopqrstuvwxyz").cps = ((List.range 26).map (97 + ·)).toArray := by decide +kernel
  rw [e] at h
  have hi : i < 26 := by
    have := (Array.getElem?_eq_some_iff.mp h).1
    simpa using this
  refine ⟨hi, ?_⟩
  simp [hi] at h
  exact h.symm
theorem abc_all : ∀ c ∈ (Str.ofString "abcdefghijklmnopqrstuvwxyz").cps.toList, 97 ≤ c ∧ c ≤ 122 := by decide +kernel
theorem spare_at {i : Nat} (h : i < 26) : spareL[i]? = some ⟨#[121, 97 + i]⟩ := by
  unfold spareL
  rw [List.getElem?_map, List.getElem?_range h]; rfl
theorem y_and (c : Nat) : (V.str (Str.ofString "y" ++ ⟨#[c]⟩)) = V.str ⟨#[121, c]⟩ := by
  congr 1
theorem word_in {v : V} (h : v ∈ [V.str (Str.ofString "work"), .str (Str.ofString "hands"), .str (Str.ofString "none"), .str (Str.ofString "put")]) : ∃ t, v = .str t ∧ IsTag t := by
  simp only [List.mem_cons, List.not_mem_nil, or_false] at h
  rcases h with rfl | rfl | rfl | rfl
  · exact ⟨_, rfl, by decide +kernel, by decide +kernel, by decide +kernel⟩
  · exact ⟨_, rfl, by decide +kernel, by decide +kernel, by decide +kernel⟩
  · exact ⟨_, rfl, by decide +kernel, by decide +kernel, by decide +kernel⟩
  · exact ⟨_, rfl, by decide +kernel, by decide +kernel, by decide +kernel⟩
theorem has_tags (D : DefAt K mg "_law_tags" s__law_tags) (B : Blt0 mg) (h__law_ladle : Has P w K mg base 1 "_law_ladle" ["_law_basin_here", "_law_many"] spLadle) : Has P w K mg base 2 "_law_tags" ["_law_basin_here", "_law_many"] spTags := by
  refine D.has (fun _ _ _ _ _ _ us hl => match us, hl with | [_, _], _ => rfl) fun f fd F => F.ok sc__law_tags (fun vs H Q E h => ?_) (fun cdv A outer s H vs Q E hr h => ?_)
  · obtain ⟨b, n, rfl, _⟩ := h; rfl
  obtain ⟨b, n, rfl, hB, hn, q⟩ := h
  refine ⟨_, (pss_cons (ps_asg (pe_tup (pa_cons (pe_lst pa_nil) (pa_cons (pe_lc (own := [("_law_sign", 2)]) rfl sc__law_tags.nd (pi_str pe_str) (blkOk_by (N := ["_law_basin_here", "_law_many", "_law_sign", "_law_found", "_law_spare", "_law_spot", "_law_tag", "_law_step", "_law_each"]) (sc := defScope s__law_tags) (own := [("_law_sign", 2)]) (by decide +kernel)) (fun _ _ _ _ _ => (pg_name (i := 2) sc__law_tags.nd rfl (.inl rfl) (.inr rfl))) (fun _ _ _ _ _ => pts_nil) (fun _ _ _ _ _ => (pe_op op_add_str pe_str (pv 2)))) pa_nil))) (pg_tup rfl (pgs_cons (pg_name (i := 3) sc__law_tags.nd rfl (.inr rfl)) (pgs_cons (pg_name (i := 4) sc__law_tags.nd rfl (.inl rfl)) pgs_nil))))
      (pss_cons (ps_for PassesOwn.never rfl (pi_range1 (by rfl) B.zrange (pa_cons (pv 1) pa_nil)) (pg_name (i := 5) sc__law_tags.nd rfl (.inl rfl)) (pss_cons (ps_set (i := 6) sc__law_tags.nd rfl (.inl rfl) pe_str)
      (pss_cons (ps_for PassesOwn.never rfl (pi_range1 (by rfl) B.zrange (pa_cons (pe_ix ix_list (pe_lst (pa_cons pe_int (pa_cons pe_int (pa_cons pe_int pa_nil)))) (pe_h h__law_ladle (hr.mono (by decide)) (pa_cons (pv 0) (pa_cons pe_int pa_nil))) (fun _ _ => rfl)) pa_nil)) (pg_name (i := 7) sc__law_tags.nd rfl (.inl rfl)) (pss_one (ps_set (i := 6) sc__law_tags.nd rfl (.inl rfl) (pe_op op_add_str (pv 6) (pe_ix ix_str pe_str (pe_h h__law_ladle (hr.mono (by decide)) (pa_cons (pv 0) (pa_cons pe_int pa_nil))) (fun _ _ => rfl))))))
      (pss_cons (ps_if (pt_cmpR op_eq (pe_h h__law_ladle (hr.mono (by decide)) (pa_cons (pv 0) (pa_cons pe_int pa_nil))) pe_int (nomark _)) (pss_one (ps_set (i := 6) sc__law_tags.nd rfl (.inl rfl) (pe_ix ix_list (pe_lst (pa_cons pe_str (pa_cons pe_str (pa_cons pe_str (pa_cons pe_str pa_nil))))) (pe_h h__law_ladle (hr.mono (by decide)) (pa_cons (pv 0) (pa_cons pe_int pa_nil))) (fun _ _ => rfl)))) pss_nil)
      (pss_cons (ps_if (pt_cmpR op_in_seq (pv 6) (pv 3) (by rfl)) (pss_one (ps_set (i := 6) sc__law_tags.nd rfl (.inl rfl) (pe_ix ix_list (pe_lc (own := [("_law_each", 8)]) rfl sc__law_tags.nd (pi_list (pv 4)) (blkOk_by (N := ["_law_basin_here", "_law_many", "_law_sign", "_law_found", "_law_spare", "_law_spot", "_law_tag", "_law_step", "_law_each"]) (sc := defScope s__law_tags) (own := [("_law_each", 8)]) (by decide +kernel)) (fun _ _ _ _ _ => (pg_name (i := 8) sc__law_tags.nd rfl (.inl rfl) (.inr rfl))) (fun _ _ _ _ _ => (pts_one (pt_cmpR (notInS (K := K) rfl) (pv 8) (pv 3) (by rfl)))) (fun _ _ _ _ _ => (pv 8))) pe_int (fun _ _ => rfl)))) pss_nil)
      (pss_one (ps_expr (pe_bm PySem.F.plainAttrs_list PySem.F.slot_list_append PySem.F.type_list_append mt_append (pv 3) (pa_cons (pv 6) pa_nil)))))))))
      (pss_one (ps_ret (pv 3))))), ?_⟩
  obtain ⟨b1, b2, b3, eb⟩ := id hB
  -- [], ['y' + sign ..]
  refine ⟨Nat.zero_le _, fun pf hpf => ?_⟩
  have nbf : b ≠ pf := ne_of_none eb hpf
  have s1 : Same H (upd H pf (.lst [])) := same_new hpf
  refine ⟨_, rfl, fun ps hps => lc_it walk_str (fun i H1 => Same (upd H pf (.lst [])) H1 ∧ H1 ps = some (.lst ((spareL.take i).map V.str))) ⟨same_new hps, upd_same⟩ (fun _ _ _ _ => True.intro) ?_ ?_⟩
  · rintro i x H1 H1' hi ⟨sm, e1⟩ ⟨rfl, c, hc, rfl⟩
    obtain ⟨hi2, rfl⟩ := abc_at hc
    refine ⟨rfl, yesIf ?_⟩
    refine ⟨_, rfl, _, _, rfl, rfl, by show 1 + 1 ≤ sizeLine; decide, _, e1, ?_, Same.app hps sm, ?_⟩
    · rw [List.length_map]
      refine small1000 (Nat.le_trans (List.length_take_le _ _) ?_)
      omega
    · rw [upd_same, map_take_succ V.str (spare_at hi2), y_and]
  rintro H1 ⟨sm, e1⟩
  have eall : spareL.take (Str.ofString "abcdefghijklmnopqrstuvwxyz").cps.size = spareL := by decide +kernel
  have e1 : H1 ps = some (.lst (spareL.map V.str)) := by rw [← eall]; exact e1
  obtain ⟨nsf, hps0⟩ := upd_free hps
  have nbs : b ≠ ps := ne_of_none eb hps0
  have s2 : Same H H1 := s1.trans sm
  have T0 : TagsAt b pf ps H H1 [] := ⟨But.of_same s2, ⟨_, _, _, s2 _ _ eb⟩, nbf.symm, nbs.symm, nsf, sm _ _ upd_same, e1⟩
  clear sm e1 s2 hps s1
  -- the pair, unpacked
  refine ⟨by show 2 ≤ sizeLine; decide, fun pt hpt => ⟨pt, _, rfl, SqT.of upd_same, rfl, _, _, rfl, _, _, rfl, rfl, ?_⟩⟩
  have T1 := T0.new (o := .tup [.ref pf, .ref ps]) hpt
  -- for spot in range(many)
  refine ⟨_, rfl, n, rfl, by omega, by omega, for_range (lo := 0) (n := (n : Int).toNat) (fun i σ H2 => ∃ (ts : List Str) (v1 v2 v3 v4 v5 : Option V), ts.length = i ∧ ts.Nodup ∧ (∀ t ∈ ts, IsTag t) ∧ TagsAt b pf ps H H2 ts ∧
    σ = [some (.ref b), some (.int n), v1, some (.ref pf), some (.ref ps), v2, v3, v4, v5]) ⟨[], _, _, _, _, _, rfl, List.nodup_nil, (by simp), T1, rfl⟩ ?_ ?_⟩
  · rintro i σ H2 hi ⟨ts, v1, v2, v3, v4, v5, hl, hnd, htag, T2, rfl⟩
    have hin : i < n := by simpa using hi
    -- tag = ''; for step in range([1, 2, 8][..])
    refine ⟨by show 3 ≤ sizeLine; decide, fun pl hpl => ?_⟩
    have T3 := T2.new (o := .lst [.int 1, .int 2, .int 8]) hpl
    have npb : pl ≠ b := by
      obtain ⟨x, y, z, e⟩ := T2.bas
      exact (ne_of_none e hpl).symm
    refine ⟨_, rfl, b, 3, rfl, T3.bas, by decide, by decide, fun r H4 r0 r1 bt B4 => ?_⟩
    have T4 := T3.next bt B4
    obtain ⟨vk, hvk, mk⟩ := atI_in (xs := [V.int 1, V.int 2, V.int 8]) r0 r1
    obtain ⟨k, rfl, hk0, hk8⟩ : ∃ k : Nat, vk = .int k ∧ 1 ≤ k ∧ k ≤ 8 := by
      simp only [List.mem_cons, List.not_mem_nil, or_false] at mk
      rcases mk with rfl | rfl | rfl
      · exact ⟨1, rfl, by decide, by decide⟩
      · exact ⟨2, rfl, by decide, by decide⟩
      · exact ⟨8, rfl, by decide, by decide⟩
    refine ⟨pl, _, r, _, rfl, rfl, SqL.of (bt _ _ npb upd_same), hvk, k, rfl, by omega, by omega, ?_⟩
    refine for_range (lo := 0) (n := (k : Int).toNat) (fun j σ H5 => ∃ (t : Str) (v4 : Option V), t.length = j ∧ (∀ c ∈ t.cps.toList, 97 ≤ c ∧ c ≤ 122) ∧ TagsAt b pf ps H H5 ts ∧
      σ = [some (.ref b), some (.int n), v1, some (.ref pf), some (.ref ps), some (.int (0 + (i : Int))), some (.str t), v4, v5]) ⟨Str.ofString "", _, rfl, (by intro c hc; cases hc), T4, rfl⟩ ?_ ?_
    · rintro j σ H5 hj ⟨t, v4, ht, hc, T5, rfl⟩
      refine ⟨_, rfl, _, rfl, b, 26, rfl, T5.bas, by decide, by decide, fun r H6 r0 r1 bt B6 => ?_⟩
      obtain ⟨c, hcc, mc⟩ := atI_inN (xs := (Str.ofString "abcdefghijklmnopqrstuvwxyz").cps.toList) r0 r1
      have hc2 : 97 ≤ c ∧ c ≤ 122 := abc_all c mc
      refine ⟨_, r, c, rfl, rfl, by show 26 ≤ sizeLine; decide, hcc, _, _, rfl, rfl, ?_, ?_⟩
      · exact Nat.le_of_lt (small1000 (show t.length + 1 ≤ 1000 by omega))
      · refine ⟨_, _, ?_, ?_, T5.next bt B6, rfl⟩
        · rw [Str.length_append, ht]; rfl
        · intro d hd
          have hd' : d ∈ TL.tl (t ++ ⟨#[c]⟩) := hd
          rw [TL.tl_append] at hd'
          rcases List.mem_append.mp hd' with z | z
          · exact hc d z
          · have : d = c := by simpa [TL.tl] using z
            rw [this]; exact hc2
    · rintro σ H5 ⟨t, v4', ht, hc, T5, rfl⟩
      have tk : t.length = k := by rw [ht]; simp
      have tt : IsTag t := ⟨by omega, by omega, hc⟩
      clear hc ht tk
      -- if ladle(5) == 0: one of the words
      refine ⟨_, rfl, b, 5, rfl, T5.bas, by decide, by decide, fun r H6 r0 r1 bt B6 => ?_⟩
      have T6 := T5.next bt B6
      refine ⟨rfl, _, rfl, ite2 (fun d => ?word) (fun d => ?plain)⟩
      case' word =>
        refine ⟨by show 4 ≤ sizeLine; decide, fun pw hpw => ?_⟩
        have T7 := T6.new (o := .lst [.str (Str.ofString "work"), .str (Str.ofString "hands"), .str (Str.ofString "none"), .str (Str.ofString "put")]) hpw
        have npw : pw ≠ b := by
          obtain ⟨x, y, z, e⟩ := T6.bas
          exact (ne_of_none e hpw).symm
        refine ⟨_, rfl, b, 4, rfl, T7.bas, by decide, by decide, fun r H8 r0 r1 bt B8 => ?_⟩
        obtain ⟨vw, hvw, mw⟩ := atI_in (xs := [V.str (Str.ofString "work"), .str (Str.ofString "hands"), .str (Str.ofString "none"), .str (Str.ofString "put")]) r0 r1
        obtain ⟨t, rfl, tt⟩ : ∃ t, vw = .str t ∧ IsTag t := word_in mw
        refine ⟨pw, _, r, _, rfl, rfl, SqL.of (bt _ _ npw upd_same), hvw, ?_⟩
        replace T6 := T7.next bt B8
        clear T7
      all_goals
        -- if tag in found
        refine ⟨_, rfl, _, rfl, pf, _, rfl, .inl (SqL.of T6.fnd), rfl, flat_strs ts, _, rfl, ite2 (fun d2 => ?_) (fun d2 => ?_)⟩
        -- a spare one
        have T60 := T6
        clear T6
        refine ⟨_, rfl, ps, rfl, ⟨_, SqL.of T60.spr⟩, fun pc hpc => ?_⟩
        refine lc_list (K := K) (a := ps) (xs := spareL.map V.str) (fun j H7 => Same _ H7 ∧ H7 pc = some (.lst (((spareL.take j).filter fun x => !decide (x ∈ ts)).map V.str))) ⟨same_new hpc, upd_same⟩ (fun _ _ _ z => SqL.of (z.1 _ _ T60.spr)) ?_ ?_
        · rintro j x H7 hx ⟨sm, e7⟩
          obtain ⟨t2, ht2, rfl⟩ : ∃ t2, spareL[j]? = some t2 ∧ x = V.str t2 := by
            rw [List.getElem?_map] at hx
            cases e : spareL[j]? with
            | none => rw [e] at hx; cases hx
            | some y => rw [e] at hx; exact ⟨y, rfl, (Option.some.inj hx).symm⟩
          refine ⟨rfl, _, rfl, _, rfl, pf, _, rfl, .inl (SqL.of (sm _ _ T60.fnd)), rfl, flat_strs ts, _, rfl, ?_⟩
          have e9 := inV_strs t2 ts
          refine ite2 (fun d3 => ?_) (fun d3 => ?_)
          · have d3' : (!decide (t2 ∈ ts)) = true := by rw [← e9]; exact d3
            refine ⟨_, rfl, _, e7, ?_, Same.app hpc sm, ?_⟩
            · rw [List.length_map]
              refine small1000 (Nat.le_trans (List.length_filter_le _ _) (Nat.le_trans (List.length_take_le' _ _) ?_))
              rw [spare_len]; omega
            · rw [upd_same, filter_take_succ _ ht2, if_pos d3', List.map_append]; rfl
          · have d3' : ¬ (!decide (t2 ∈ ts)) = true := by rw [← e9]; exact d3
            refine ⟨sm, ?_⟩
            rw [e7, filter_take_succ _ ht2, if_neg d3', List.append_nil]
        rintro H7 ⟨sm, e7⟩
        rw [List.length_map, List.take_length] at e7
        have T6 : TagsAt b pf ps H H7 ts := T60.next (But.of_same sm) (by obtain ⟨x, y, z, e⟩ := T60.bas; exact ⟨x, y, z, sm _ _ e⟩)
        have T61 := T60
        clear T60 sm
        obtain ⟨t, rest, hf⟩ : ∃ t rest, (spareL.filter fun x => !decide (x ∈ ts)) = t :: rest := by
          obtain ⟨y, hy1, hy2⟩ := exists_new (m := ts) spare_nd (by rw [spare_len, hl]; omega)
          have hm : y ∈ spareL.filter fun x => !decide (x ∈ ts) := List.mem_filter.mpr ⟨hy1, by simpa using hy2⟩
          cases hc : spareL.filter fun x => !decide (x ∈ ts) with
          | nil => rw [hc] at hm; cases hm
          | cons a r => exact ⟨a, r, rfl⟩
        have hm : t ∈ spareL.filter fun x => !decide (x ∈ ts) := by rw [hf]; exact List.mem_cons_self
        obtain ⟨hm1, hm2⟩ := List.mem_filter.mp hm
        have tt : IsTag t := spare_tag t hm1
        have hnew : t ∉ ts := by simpa using hm2
        rw [hf] at e7
        refine ⟨pc, _, 0, .str t, rfl, rfl, SqL.of e7, atI_nat (j := 0) rfl, ?_⟩
        rotate_left
        have hnew : _ ∉ ts := fun z => d2 (by rw [inV_strs]; exact decide_eq_true z)
        all_goals
          refine ⟨_, rfl, .inl ⟨rfl, _, SqL.of T6.fnd⟩, _, rfl, pf, _, _, rfl, rfl, T6.fnd, ?_, ts ++ [_], _, _, _, _, _, by rw [List.length_append, hl]; rfl, ?_, ?_, T6.put hpf, rfl⟩
          · rw [List.length_map]
            exact small1000 (by omega)
          · exact List.nodup_append.mpr ⟨hnd, by simp, fun x hx y hy e => by
              rw [List.mem_singleton.mp hy] at e
              exact hnew (e ▸ hx)⟩
          · intro u hu
            rcases List.mem_append.mp hu with z | z
            · exact htag u z
            · rw [List.mem_singleton.mp z]; exact tt
  · rintro σ H2 ⟨ts, v1, v2, v3, v4, v5, hl, hnd, htag, T2, rfl⟩
    exact ⟨_, rfl, q ts pf H2 (by rw [hl]; simp) hnd htag hpf T2.but T2.bas T2.fnd⟩
end
end Ts
namespace Ts
open PySem PySem.Spec PyProof.Rows L2
section
variable {P : Program} {w : World} {K : PySem.W.Frag} {mg : Str → Option Value} {base : Heap}
theorem has_jobs (D : DefAt K mg "_law_jobs" s__law_jobs) (B : Blt0 mg) (h__law_ladle : Has P w K mg base 1 "_law_ladle" ["_law_basin_here", "_law_many"] spLadle)
    (h__law_tags : Has P w K mg base 2 "_law_tags" ["_law_basin_here", "_law_many"] spTags) (h__law_part : Has P w K mg base 2 "_law_part" ["_law_basin_here", "_law_most"] spPart) :
    Has P w K mg base 3 "_law_jobs" ["_law_basin_here", "_law_most", "_law_deep"] (spJobs K) := by
  refine D.has (fun _ _ _ _ _ _ us hl => match us, hl with | [_, _, _], _ => rfl) fun f fd F => F.ok sc__law_jobs (fun vs H Q E h => ?_) (fun cdv A outer s H vs Q E hr h => ?_)
  · obtain ⟨b, m, d, rfl, _⟩ := h; rfl
  obtain ⟨b, m, d, rfl, hB, hm0, hm1, hd0, hd1, q⟩ := h
  refine ⟨_, (pss_cons (ps_set (i := 3) sc__law_jobs.nd rfl (.inl rfl) (pe_h h__law_tags (hr.mono (by decide)) (pa_cons (pv 0) (pa_cons (pe_op op_add pe_int (pe_h h__law_ladle (hr.mono (by decide)) (pa_cons (pv 0) (pa_cons (pv 1) pa_nil)))) pa_nil))))
      (pss_one (ps_ret (pe_lc (own := [("_law_tag", 4)]) rfl sc__law_jobs.nd (pi_list (pv 3)) (blkOk_by (N := ["_law_basin_here", "_law_most", "_law_deep", "_law_tags_here", "_law_tag"]) (sc := defScope s__law_jobs) (own := [("_law_tag", 4)]) (by decide +kernel)) (fun _ _ _ _ _ => (pg_name (i := 4) sc__law_jobs.nd rfl (.inl rfl) (.inr rfl))) (fun _ _ _ _ _ => pts_nil) (fun _ _ _ _ _ => (pe_tup (pa_cons (pv 4) (pa_cons (pe_h h__law_part (hr.mono (by decide)) (pa_cons (pv 0) (pa_cons (pv 2) pa_nil))) pa_nil)))))))), ?_⟩
  -- the names
  refine ⟨_, rfl, _, rfl, _, rfl, b, m, rfl, hB, by omega, by omega, fun r H1 r0 r1 b1 B1 => ?_⟩
  obtain ⟨x, rfl⟩ := Int.eq_ofNat_of_zero_le r0
  refine ⟨_, _, rfl, rfl, b, 1 + x, by simp, B1, by omega, fun ts pt H2 hl hnd htag hpt b2 B2 e2 => ?_⟩
  have npt : pt ≠ b := by
    obtain ⟨x, y, z, e⟩ := B1
    exact (ne_of_none e hpt).symm
  have b02 := b1.trans b2
  -- [(tag, part) ..]
  refine ⟨_, rfl, pt, rfl, ⟨_, SqL.of e2⟩, fun pl hpl => ?_⟩
  have npl : pl ≠ b := by
    obtain ⟨x, y, z, e⟩ := B2
    exact (ne_of_none e hpl).symm
  have nplt : pt ≠ pl := ne_of_none e2 hpl
  refine lc_list (K := K) (a := pt) (xs := ts.map V.str) (fun i H3 => But b H2 H3 ∧ Bas H3 b ∧ H3 pt = some (.lst (ts.map V.str)) ∧ ∃ (js : List Job) (vs : List V), js.map (·.1) = ts.take i ∧ (∀ j ∈ js, GoodPart d j.2.1 j.2.2) ∧
    H3 pl = some (.lst vs) ∧ DpAll K (hid pl (hid b H3)) vs (js.map jobD)) ?_ (fun _ _ _ z => SqL.of z.2.2.1) ?_ ?_
  · refine ⟨But.of_same (same_new hpl), ?_, same_new hpl _ _ e2, [], [], rfl, (by simp), upd_same, .nil⟩
    obtain ⟨x, y, z, e⟩ := B2
    exact ⟨x, y, z, same_new hpl _ _ e⟩
  · rintro i v H3 hv ⟨b3, B3, e3, js, vs, ej, hg, el, hd⟩
    obtain ⟨t, ht, rfl⟩ : ∃ t, ts[i]? = some t ∧ v = V.str t := by
      rw [List.getElem?_map] at hv
      cases e : ts[i]? with
      | none => rw [e] at hv; cases hv
      | some y => rw [e] at hv; exact ⟨y, rfl, (Option.some.inj hv).symm⟩
    refine ⟨rfl, yesIf ?_⟩
    refine ⟨_, rfl, _, rfl, _, rfl, b, d, rfl, B3, hd0, hd1, fun e p q2 H4 gp hq2 b4 B4 e4 => ?_⟩
    have nq2 : q2 ≠ pl := (ne_of_none el hq2).symm
    have nq2b : q2 ≠ b := by
      obtain ⟨x, y, z, e⟩ := B3
      exact (ne_of_none e hq2).symm
    have el4 := b4 _ _ npl el
    refine ⟨by show 2 ≤ sizeLine; decide, fun pq hpq => ?_⟩
    have npq : pq ≠ pl := (ne_of_none el4 hpq).symm
    have npqb : pq ≠ b := by
      obtain ⟨x, y, z, e⟩ := B4
      exact (ne_of_none e hpq).symm
    have s5 : Same H4 (upd H4 pq (.tup [.str t, .ref q2])) := same_new hpq
    refine ⟨vs, s5 _ _ el4, ?_, ?_, ?_, ?_, js ++ [(t, e, p)], vs ++ [.ref pq], ?_, ?_, upd_same, ?_⟩
    · have l1 := hd.length
      have l2 := congrArg List.length ej
      rw [List.length_map, List.length_take] at l2
      rw [List.length_map] at l1
      exact small1000 (by omega)
    · intro a o n h
      rw [upd_ne (ne_of_none h hpl)]
      exact s5 _ _ (b4 _ _ n (b3 a o n h))
    · obtain ⟨x, y, z, e⟩ := B4
      exact ⟨x, y, z, by rw [upd_ne npl.symm]; exact s5 _ _ e⟩
    · rw [upd_ne nplt]; exact s5 _ _ (b4 _ _ npt e3)
    · rw [List.map_append, ej, List.take_add_one, ht]; rfl
    · intro j hj
      rcases List.mem_append.mp hj with z | z
      · exact hg j z
      · rw [List.mem_singleton.mp z]; exact gp
    · have sub : Same (hid pl (hid b H3)) (hid pl (hid b (upd (upd H4 pq (.tup [.str t, .ref q2])) pl (.lst (vs ++ [.ref pq]))))) := by
        intro a o h
        obtain ⟨n1, h⟩ := hid_some h
        obtain ⟨n2, h⟩ := hid_some h
        rw [hid_ne n1, hid_ne n2, upd_ne n1]
        exact s5 _ _ (b4 _ _ n2 h)
      rw [List.map_append]
      refine (hd.mono sub).snoc (Dp.job (q := q2) ?_ ?_)
      · rw [hid_ne npq, hid_ne npqb, upd_ne npq, upd_same]
      · rw [hid_ne nq2, hid_ne nq2b, upd_ne nq2]; exact s5 _ _ e4
  · rintro H3 ⟨b3, B3, e3, js, vs, ej, hg, el, hd⟩
    rw [List.length_map, List.take_length] at ej
    have hjl : js.length = 1 + x := by
      have := congrArg List.length ej
      rw [List.length_map] at this; omega
    refine q js pl vs H3 (by omega) (by omega) ⟨by rw [ej]; exact hnd, fun j hj => htag _ (by rw [← ej]; exact List.mem_map_of_mem hj), hg⟩ ?_ (b02.trans b3) B3 el (hd.mono hid_sub)
    exact b02.free npl.symm hpl
end
end Ts
namespace Ts
open PySem PySem.Spec PyProof.Rows L2
section
variable {P : Program} {w : World} {K : PySem.W.Frag} {mg : Str → Option Value} {base : Heap}
theorem num_ok {n : Nat} (h : n ≤ 1000) : ((n : Nat) : Int).natAbs.log2 < 1920 := by
  have e : ((n : Nat) : Int).natAbs = n := by simp
  rw [e]
  by_cases z : n = 0
  · subst z; decide
  · exact Nat.lt_trans ((Nat.log2_lt z).mpr (show n < 2 ^ 10 by omega)) (by decide)
theorem has_page (D : DefAt K mg "_law_page" s__law_page) (B : Blt0 mg) : Has P w K mg base 1 "_law_page" ["_law_many", "_law_jobs_here"] (spPage K) := by
  refine D.has (fun _ _ _ _ _ _ us hl => match us, hl with | [_, _], _ => rfl) fun f fd F => F.ok sc__law_page (fun vs H Q E h => ?_) (fun cdv A outer s H vs Q E hr h => ?_)
  · obtain ⟨n, p, js, rfl, _⟩ := h; rfl
  obtain ⟨n, p, js, rfl, hn, hl, G, hD, q⟩ := h
  refine ⟨_, (pss_cons (ps_set (i := 2) sc__law_page.nd rfl (.inl rfl) (pe_lst (pa_cons (pe_op op_add_str pe_str (pe_callTy call_str_int (by rfl) B.zstr (by decide +kernel) (pa_cons (pv 0) pa_nil))) pa_nil)))
      (pss_cons (ps_for PassesOwn.never rfl (pi_list (pv 1)) (pg_tup rfl (pgs_cons (pg_name (i := 3) sc__law_page.nd rfl (.inl rfl)) (pgs_cons (pg_name (i := 4) sc__law_page.nd rfl (.inl rfl)) pgs_nil))) (pss_one (ps_expr (pe_bm PySem.F.plainAttrs_list PySem.F.slot_list_append PySem.F.type_list_append mt_append (pv 2) (pa_cons (pe_op op_add_str (pe_op op_add_str (pe_op op_add_str (pe_op op_add_str (pe_op op_add_str pe_str (pv 3)) pe_str) (pe_callTy call_str_int (by rfl) B.zstr (by decide +kernel) (pa_cons (pe_ix ix_tup (pv 4) pe_int (fun _ _ => rfl)) pa_nil))) pe_str) (pe_callTy call_str_int (by rfl) B.zstr (by decide +kernel) (pa_cons (pe_ix ix_tup (pv 4) pe_int (fun _ _ => rfl)) pa_nil))) pa_nil)))))
      (pss_one (ps_ret (pe_join pe_str (pv 2)))))), ?_⟩
  obtain ⟨p', xs, e, hS, hA⟩ := hD.list
  cases e
  have ln := numS_len hn
  have l6 : (Str.ofString "hands ").length = 6 := by decide
  -- rows = ['hands ' + str(many)]
  refine ⟨_, rfl, _, rfl, num_ok hn, _, _, rfl, rfl, ?_, by show 1 ≤ sizeLine; decide, fun pr hpr => ?_⟩
  · rw [l6]
    show 6 + (numS n).length ≤ sizeLine
    exact Nat.le_of_lt (small1000 (by omega))
  -- the works
  have hxl : xs.length = js.length := by rw [hA.length, List.length_map]
  refine ⟨_, rfl, p, rfl, ⟨_, (same_new hpr).seq hS⟩, for_list (K := K) (a := p) (xs := xs) (fun i σ H2 => Same H H2 ∧ H2 pr = some (.lst ((rowsOf n (js.take i)).map V.str)) ∧ ∃ v1 v2, σ = [some (.int n), some (.ref p), some (.ref pr), v1, v2])
    ⟨same_new hpr, upd_same, _, _, rfl⟩ (fun _ _ _ _ z => z.1.seq hS) ?_ ?_⟩
  · rintro i x σ H2 hx ⟨sm, e2, v1, v2, rfl⟩
    obtain ⟨j, a, q2, hj, rfl, ha, hq⟩ := job_at hA hx
    have hjm : j ∈ js := List.mem_of_getElem? hj
    have hp := G.part j hjm
    have ht := G.tag j hjm
    obtain ⟨p1, p2, p3, _⟩ := id hp
    have lr := rowS_len ht hp
    have e6 : (rowS j).length = (Str.ofString "work " ++ j.1 ++ Str.ofString " " ++ numS j.2.1 ++ Str.ofString "/" ++ numS j.2.2).length := rfl
    rw [e6, Str.length_append, Str.length_append, Str.length_append, Str.length_append, Str.length_append] at lr
    have big : ∀ {k : Nat}, k ≤ 23 → k ≤ sizeLine := fun h => Nat.le_of_lt (small1000 (by omega))
    refine ⟨a, _, rfl, sameT sm ha, rfl, _, _, rfl, _, _, rfl, rfl, ?_⟩
    refine ⟨_, rfl, .inl ⟨rfl, _, SqL.of e2⟩, ?_⟩
    refine ⟨_, rfl, _, _, rfl, rfl, big (by omega), _, _, rfl, rfl, big (by rw [Str.length_append]; omega), ?_⟩
    refine ⟨_, rfl, q2, _, 0, _, rfl, rfl, sameT sm hq, rfl, _, rfl, num_ok (by omega), _, _, rfl, rfl, big (by rw [Str.length_append, Str.length_append]; show _ + (numS j.2.1).length ≤ 23; omega), ?_⟩
    refine ⟨_, _, rfl, rfl, big (by rw [Str.length_append, Str.length_append, Str.length_append]; show _ + _ + _ + (numS j.2.1).length + _ ≤ 23; omega), ?_⟩
    refine ⟨_, rfl, q2, _, 1, _, rfl, rfl, sameT sm hq, rfl, _, rfl, num_ok (by omega), _, _, rfl, rfl, big (by rw [Str.length_append, Str.length_append, Str.length_append, Str.length_append]; show _ + _ + _ + (numS j.2.1).length + _ + (numS j.2.2).length ≤ 23; omega), ?_⟩
    refine ⟨pr, _, _, rfl, rfl, e2, ?_, Same.app hpr sm, ?_, _, _, rfl⟩
    · rw [List.length_map]
      refine small1000 (Nat.le_trans (show _ ≤ 21 from ?_) (by decide))
      show ((js.take i).map rowS).length + 1 ≤ 21
      rw [List.length_map, List.length_take]
      omega
    · rw [upd_same]
      have e9 : rowsOf n (js.take (i + 1)) = rowsOf n (js.take i) ++ [rowS j] := by
        unfold rowsOf
        rw [map_take_succ rowS hj, List.cons_append]
      rw [e9, List.map_append]; rfl
  · rintro σ H2 ⟨sm, e2, v1, v2, rfl⟩
    rw [hxl, List.take_length] at e2
    refine ⟨⟨_, rfl⟩, _, rfl, _, pr, rowsOf n js, rfl, rfl, .inl (SqL.of e2), ?_, q H2 sm⟩
    have h1 : ((rowsOf n js).map (·.length)).sum ≤ 10 + 23 * js.length := by
      show (handsS n).length + ((js.map rowS).map (·.length)).sum ≤ _
      have a : (handsS n).length ≤ 10 := by unfold handsS; rw [Str.length_append, l6]; omega
      have b : ∀ l : List Job, (∀ j ∈ l, (rowS j).length ≤ 23) → ((l.map rowS).map (·.length)).sum ≤ 23 * l.length := by
        intro l
        induction l with
        | nil => intro _; exact Nat.le_refl _
        | cons j l ih =>
          intro h
          have h1 := h j List.mem_cons_self
          have h2 := ih fun y hy => h y (List.mem_cons_of_mem _ hy)
          show (rowS j).length + ((l.map rowS).map (·.length)).sum ≤ 23 * (l.length + 1)
          omega
      have c := b js fun j hj => rowS_len (G.tag j hj) (G.part j hj)
      omega
    have h2 : (rowsOf n js).length = js.length + 1 := by unfold rowsOf; rw [List.length_cons, List.length_map]
    have h3 : (Str.ofString "\n").length = 1 := by decide
    rw [h2, h3]
    omega
end
end Ts
namespace Ts
open PySem PySem.Spec PyProof.Rows L2
section
variable {P : Program} {w : World} {K : PySem.W.Frag} {mg : Str → Option Value} {base : Heap}
theorem has_cycle (D : DefAt K mg "_law_cycle" s__law_cycle) (B : Blt mg) : Has P w K mg base 1 "_law_cycle" ["_law_jobs_here"] (spCycle K) := by
  refine D.has (fun _ _ _ _ _ _ us hl => match us, hl with | [_], _ => rfl) fun f fd F => F.ok sc__law_cycle (fun vs H Q E h => ?_) (fun cdv A outer s H vs Q E hr h => ?_)
  · obtain ⟨p, js, rfl, _⟩ := h; rfl
  obtain ⟨p, js, rfl, hD, G, q⟩ := h
  refine ⟨_, (pss_cons (ps_set (i := 1) sc__law_cycle.nd rfl (.inl rfl) pe_int)
      (pss_cons (ps_for PassesOwn.never rfl (pi_list (pv 0)) (pg_tup rfl (pgs_cons (pg_name (i := 2) sc__law_cycle.nd rfl (.inl rfl)) (pgs_cons (pg_name (i := 3) sc__law_cycle.nd rfl (.inl rfl)) pgs_nil))) (pss_cons (ps_set (i := 4) sc__law_cycle.nd rfl (.inl rfl) (pv 1))
      (pss_cons (ps_while PassesOwn.never (pt_cmpR op_ne (pe_op op_mod (pe_callTy call_int1 (by rfl) B.zint (by decide +kernel) (pa_cons (pv 4) pa_nil)) (pe_ix ix_tup (pv 3) pe_int (fun _ _ => rfl))) pe_int (nomark _)) (pss_one (ps_set (i := 4) sc__law_cycle.nd rfl (.inl rfl) (pe_op op_add (pv 4) (pv 1)))))
      (pss_one (ps_set (i := 1) sc__law_cycle.nd rfl (.inl rfl) (pv 4))))))
      (pss_one (ps_ret (pv 1))))), ?_⟩
  obtain ⟨p', xs, e, hS, hA⟩ := hD.list
  cases e
  have hxl : xs.length = js.length := by rw [hA.length, List.length_map]
  refine ⟨_, rfl, p, rfl, ⟨_, hS⟩, for_list (K := K) (a := p) (xs := xs) (fun i σ H2 => H2 = H ∧ ∃ v1 v2 v3, σ = [some (.ref p), some (.int (spanN (js.take i))), v1, v2, v3])
    ⟨rfl, _, _, _, rfl⟩ (fun _ _ _ _ z => z.1 ▸ hS) ?_ ?_⟩
  · rintro i x σ H2 hx ⟨rfl, v1, v2, v3, rfl⟩
    obtain ⟨j, a, q2, hj, rfl, ha, hq⟩ := job_at hA hx
    have hjm : j ∈ js := List.mem_of_getElem? hj
    obtain ⟨p1, p2, p3, _⟩ := G.part j hjm
    have hs := span_pos (G.take (i := i))
    have hst := span_step hj
    have hp : 0 < j.2.2 := by omega
    refine ⟨a, _, rfl, ha, rfl, _, _, rfl, _, _, rfl, rfl, _, rfl, ?_⟩
    refine ⟨fun m σ H' => H' = H2 ∧ ∃ x : Nat, m = Nat.lcm (spanN (js.take i)) j.2.2 - x ∧ 0 < x ∧ x ≤ Nat.lcm (spanN (js.take i)) j.2.2 ∧ (∃ u, x = spanN (js.take i) * u) ∧ σ = [some (.ref p), some (.int (spanN (js.take i))), some (.str j.1), some (.ref q2), some (.int x)], ⟨_, rfl, _, rfl, hs, Nat.le_of_dvd (Nat.lcm_pos hs hp) (Nat.dvd_lcm_left _ _), ⟨1, by rw [Nat.mul_one]⟩, rfl⟩, ?_⟩
    rintro m σ H' ⟨rfl, x, rfl, x0, x1, xu, rfl⟩
    refine ⟨_, rfl, .inl ⟨_, rfl, _, rfl, q2, _, 1, _, rfl, rfl, hq, atI_nat (j := 1) rfl, _, _, rfl, rfl, by omega, rfl, _, rfl, ite2 (fun c => ?_) (fun c => ?_)⟩⟩
    · have c' : x % j.2.2 ≠ 0 := fun z => by
        have z2 : ((x : Int) % (j.2.2 : Int)) = 0 := by omega
        have c2 : (!decide (V.int ((x : Int) % (j.2.2 : Int)) = V.int 0)) = true := c
        rw [z2] at c2
        exact absurd c2 (by decide)
      obtain ⟨y1, y2⟩ := step_up hs hp xu x1 x0 c'
      refine ⟨fun σ' H3 => H3 = H' ∧ σ' = [some (.ref p), some (.int (spanN (js.take i))), some (.str j.1), some (.ref q2), some (.int ((x + spanN (js.take i) : Nat) : Int))], fun σ' H3 hN => ?_, ?_⟩
      · obtain ⟨rfl, rfl⟩ := hN
        exact ⟨Nat.lcm (spanN (js.take i)) j.2.2 - (x + spanN (js.take i)), by omega, rfl, _, rfl, by omega, y2, y1, rfl⟩
      · refine ⟨_, rfl, _, rfl, _, _, rfl, rfl, rfl, ?_⟩
        rw [Int.natCast_add]; rfl
    · have c' : x % j.2.2 = 0 := by
        have z2 : ((x : Int) % (j.2.2 : Int)) = 0 := by
          by_cases z : ((x : Int) % (j.2.2 : Int)) = 0
          · exact z
          · refine absurd ?_ c
            show (!decide (V.int ((x : Int) % (j.2.2 : Int)) = V.int 0)) = true
            rw [decide_eq_false fun e => z (V.int.inj e)]; rfl
        omega
      have e := step_end hs xu x1 x0 c'
      refine ⟨_, rfl, rfl, some (.str j.1), some (.ref q2), some (.int x), ?_⟩
      rw [hst, ← e]; rfl
  · rintro σ H2 ⟨rfl, v1, v2, v3, rfl⟩
    rw [hxl, List.take_length]
    exact ⟨_, rfl, q _ fun _ _ h => h⟩
end
end Ts
namespace Ts
open PySem PySem.Spec PyProof.Rows L2
section
variable {P : Program} {w : World} {K : PySem.W.Frag} {mg : Str → Option Value} {base : Heap}
theorem has_is_number_from (D : DefAt K mg "is_number_from" s_is_number_from) (B : Blt0 mg) : Has P w K mg base 1 "is_number_from" ["value", "low"] spIsNumberFrom := by
  refine D.has (fun _ _ _ _ _ _ us hl => match us, hl with | [_, _], _ => rfl) fun f fd F => F.ok sc_is_number_from (fun vs H Q E h => ?_) (fun cdv A outer s H vs Q E hr h => ?_)
  · obtain ⟨v, lo, rfl, _⟩ := h; rfl
  obtain ⟨v, lo, rfl, q⟩ := h
  refine ⟨_, (pss_one (ps_ret (pe_and (pe_callB call_isi (by rfl) B.zisinstance (by decide +kernel) (pa_cons (pv 0) (pa_cons (pe_ty "int" B.zint) pa_nil))) (pe_and (pe_not (pe_callB call_isi (by rfl) B.zisinstance (by decide +kernel) (pa_cons (pv 0) (pa_cons (pe_ty "bool" B.zbool) pa_nil)))) (pe_one (pe_cmpR op_le (pv 1) (pv 0) (nomark _))))))), ?_⟩
  refine ⟨_, rfl, _, _, _, _, _, rfl, .ty "int", .base (.int v), kit_ty (r := true) (by decide +kernel), true, rfl, ?_⟩
  refine iteT ⟨_, rfl, _, _, _, _, _, rfl, .ty "bool", .base (.int v), kit_ty (r := false) (by decide +kernel), false, rfl, true, rfl, ?_⟩
  refine iteT ⟨_, rfl, _, rfl, _, _, rfl, rfl, q⟩
theorem has_is_number (D : DefAt K mg "is_number" s_is_number) (B : Blt0 mg) (h_is_number_from : Has P w K mg base 1 "is_number_from" ["value", "low"] spIsNumberFrom) : Has P w K mg base 2 "is_number" ["value", "low", "high"] spIsNumber := by
  refine D.has (fun _ _ _ _ _ _ us hl => match us, hl with | [_, _, _], _ => rfl) fun f fd F => F.ok sc_is_number (fun vs H Q E h => ?_) (fun cdv A outer s H vs Q E hr h => ?_)
  · obtain ⟨v, lo, hi, rfl, _⟩ := h; rfl
  obtain ⟨v, lo, hi, rfl, q⟩ := h
  refine ⟨_, (pss_one (ps_ret (pe_and (pe_h h_is_number_from (hr.mono (by decide)) (pa_cons (pv 0) (pa_cons (pv 1) pa_nil))) (pe_one (pe_cmpR op_le (pv 0) (pv 2) (nomark _)))))), ?_⟩
  refine ⟨_, rfl, _, rfl, v, lo, rfl, ?_⟩
  refine ⟨decide (lo ≤ v), rfl, ?_⟩
  refine ite2 (fun c => ?_) (fun c => ?_)
  · refine ⟨_, rfl, _, rfl, _, _, rfl, rfl, ?_⟩
    have e : decide (v ≤ hi) = decide (lo ≤ v ∧ v ≤ hi) := by
      have := of_decide_eq_true c
      by_cases z : v ≤ hi <;> simp [z, this]
    show Q (V.bl (decide (v ≤ hi))) _
    rw [e]; exact q
  · have e : false = decide (lo ≤ v ∧ v ≤ hi) := by
      refine (decide_eq_false fun z => c (decide_eq_true z.1)).symm
    rw [e]; exact q
theorem has_is_name (D : DefAt K mg "is_name" s_is_name) (B : Blt0 mg) (C : Cst mg) : Has P w K mg base 1 "is_name" ["value"] spIsName := by
  refine D.has (fun _ _ _ _ _ _ us hl => match us, hl with | [_], _ => rfl) fun f fd F => F.ok sc_is_name (fun vs H Q E h => ?_) (fun cdv A outer s H vs Q E hr h => ?_)
  · obtain ⟨t, rfl, _⟩ := h; rfl
  obtain ⟨t, rfl, ht, q⟩ := h
  refine ⟨_, (pss_cons (ps_if (PW.pt (pw_or (pt_not (pt_val (pe_callB call_isi (by rfl) B.zisinstance (by decide +kernel) (pa_cons (pv 0) (pa_cons (pe_ty "str" B.zstr) pa_nil))))) (pw_or1 (pt_not (pt_chain op_le op_le pe_int (pe_callB call_len_str (by rfl) B.zlen (by decide +kernel) (pa_cons (pv 0) pa_nil)) (pe_gint C.LONGEST_NAME)))))) (pss_one (ps_ret pe_bl)) pss_nil)
      (pss_one (ps_ret (pe_callB (call_allB rfl) (by rfl) B.zall (by decide +kernel) (pa_cons (pe_lc (own := [("letter", 1)]) rfl sc_is_name.nd (pi_str (pv 0)) (blkOk_by (N := ["value", "letter"]) (sc := defScope s_is_name) (own := [("letter", 1)]) (by decide +kernel)) (fun _ _ _ _ _ => (pg_name (i := 1) sc_is_name.nd rfl (.inl rfl) (.inr rfl))) (fun _ _ _ _ _ => pts_nil) (fun _ _ _ _ _ => (pe_cmpR op_in_sign (pv 1) (pe_gstr C.LETTERS) (by rfl)))) pa_nil))))), ?_⟩
  have hl := ht.1
  have hl2 := ht.2.1
  refine ⟨_, rfl, _, _, _, _, _, rfl, .ty "str", .base (.str t), kit_ty (r := true) (by decide +kernel), true, rfl, ?_⟩
  refine iteF ⟨_, rfl, _, rfl, Nat.le_of_lt (small1000 (by omega)), _, _, rfl, rfl, _, rfl, ?_⟩
  have c1 : decide ((1 : Int) ≤ (t.length : Int)) = true := decide_eq_true (by omega)
  have c2 : decide ((t.length : Int) ≤ 8) = true := decide_eq_true (by omega)
  rw [c1]
  refine iteT ⟨_, _, rfl, rfl, _, rfl, ?_⟩
  rw [c2]
  refine iteF ?_
  refine ⟨_, rfl, _, rfl, fun D2 hD => lc_it walk_str (fun i H1 => Same H H1 ∧ H1 D2 = some (.lst ((List.replicate i true).map V.bl))) ⟨same_new hD, upd_same⟩ (fun _ _ _ _ => True.intro) ?_ ?_⟩
  · rintro i x H1 H1' hi ⟨sm, e1⟩ ⟨rfl, c, hc, rfl⟩
    refine ⟨rfl, yesIf ⟨_, rfl, _, _, rfl, rfl, _, e1, ?_, Same.app hD sm, ?_⟩⟩
    · rw [List.length_map, List.length_replicate]
      refine small1000 ?_
      have : t.cps.size = t.length := rfl
      omega
    · have hm : c ∈ t.cps.toList := List.mem_of_getElem? (by rw [Array.getElem?_toList]; exact hc)
      have hin : decide (c ∈ (Str.ofString "abcdefghijklmnopqrstuvwxyz").cps.toList) = true := decide_eq_true (abc_has (ht.2.2 c hm))
      rw [upd_same, hin, List.replicate_succ', List.map_append]; rfl
  · rintro H1 ⟨sm, e1⟩
    refine ⟨_, _, rfl, SqL.of e1, ?_⟩
    have e : (List.replicate t.cps.size true).all id = true := by simp
    rw [e]; exact q H1 sm
theorem has_is_share (D : DefAt K mg "is_share" s_is_share) (B : Blt mg) (C : Cst mg) (h_is_number : Has P w K mg base 2 "is_number" ["value", "low", "high"] spIsNumber) : Has P w K mg base 3 "is_share" ["value"] spIsShare := by
  refine D.has (fun _ _ _ _ _ _ us hl => match us, hl with | [_], _ => rfl) fun f fd F => F.ok sc_is_share (fun vs H Q E h => ?_) (fun cdv A outer s H vs Q E hr h => ?_)
  · obtain ⟨q, e, p, rfl, _⟩ := h; rfl
  obtain ⟨t, e, p, rfl, ht, ⟨p1, p2, p3, p4⟩, q⟩ := h
  refine ⟨_, (pss_cons (ps_if (PW.pt (pw_or (pt_not (pt_val (pe_callB call_isi (by rfl) B.zisinstance (by decide +kernel) (pa_cons (pv 0) (pa_cons (pe_ty "tuple" B.ztuple) pa_nil))))) (pw_or1 (pt_cmpR op_ne (pe_callB call_len_seq (by rfl) B.zlen (by decide +kernel) (pa_cons (pv 0) pa_nil)) pe_int (nomark _))))) (pss_one (ps_ret pe_bl)) pss_nil)
      (pss_cons (ps_asg (pv 0) (pg_tup rfl (pgs_cons (pg_name (i := 1) sc_is_share.nd rfl (.inl rfl)) (pgs_cons (pg_name (i := 2) sc_is_share.nd rfl (.inl rfl)) pgs_nil))))
      (pss_cons (ps_if (PW.pt (pw_or (pt_not (pt_val (pe_h h_is_number (hr.mono (by decide)) (pa_cons (pv 2) (pa_cons pe_int (pa_cons (pe_gint C.MOST_PERIOD) pa_nil)))))) (pw_or1 (pt_not (pt_val (pe_h h_is_number (hr.mono (by decide)) (pa_cons (pv 1) (pa_cons pe_int (pa_cons (pv 2) pa_nil))))))))) (pss_one (ps_ret pe_bl)) pss_nil)
      (pss_one (ps_ret (pe_cmpR op_eq (pe_callBfun cr_gcd (by rfl) B.g_gcd (pa_cons (pv 1) (pa_cons (pv 2) pa_nil))) pe_int (nomark _))))))), ?_⟩
  refine ⟨_, rfl, _, _, _, _, _, rfl, .ty "tuple", .base (.tup ht), kit_ty (r := true) (by decide +kernel), true, rfl, ?_⟩
  refine iteF ⟨_, rfl, t, _, rfl, .inr (SqT.of ht), rfl, _, rfl, iteF ?_⟩
  refine ⟨_, rfl, t, _, rfl, SqT.of ht, rfl, _, _, rfl, _, _, rfl, rfl, ?_⟩
  refine ⟨_, rfl, _, _, _, rfl, _, rfl, ?_⟩
  have c1 : decide ((1 : Int) ≤ (p : Int) ∧ (p : Int) ≤ 16) = true := decide_eq_true (by omega)
  have c2 : decide ((1 : Int) ≤ (e : Int) ∧ (e : Int) ≤ (p : Int)) = true := decide_eq_true (by omega)
  rw [c1]
  refine iteF ⟨_, rfl, _, rfl, _, _, _, rfl, _, rfl, ?_⟩
  rw [c2]
  refine iteF ⟨_, rfl, _, rfl, _, _, rfl, rfl, ?_⟩
  have e1 : ((Nat.gcd ((e : Int)).natAbs ((p : Int)).natAbs : Nat) : Int) = 1 := by simp [p4]
  rw [e1]; exact q
end
end Ts
namespace Ts
open PySem PySem.Spec PyProof.Rows L2
section
variable {P : Program} {w : World} {K : PySem.W.Frag} {mg : Str → Option Value} {base : Heap}
theorem has_read_number (D : DefAt K mg "_read_number" s__read_number) (B : Blt mg) : Has P w K mg base 1 "_read_number" ["word", "most"] spReadNumber := by
  refine D.has (fun _ _ _ _ _ _ us hl => match us, hl with | [_, _], _ => rfl) fun f fd F => F.ok sc__read_number (fun vs H Q E h => ?_) (fun cdv A outer s H vs Q E hr h => ?_)
  · obtain ⟨n, m, rfl, _⟩ := h; rfl
  obtain ⟨n, m, rfl, n1, nm, m1, q⟩ := h
  refine ⟨_, (pss_cons (ps_for PassesOwn.never rfl (pi_range2 (by rfl) B.zrange (pa_cons pe_int (pa_cons (pe_op op_add (pv 1) pe_int) pa_nil))) (pg_name (i := 2) sc__read_number.nd rfl (.inl rfl)) (pss_one (ps_if (pt_cmpR op_eq (pv 0) (pe_callTy call_str_int (by rfl) B.zstr (by decide +kernel) (pa_cons (pv 2) pa_nil)) (nomark _)) (pss_one (ps_ret (pv 2))) pss_nil)))
      (pss_one (ps_ret pe_non))), ?_⟩
  refine ⟨_, rfl, _, _, rfl, rfl, 1, (m : Int) + 1, rfl, ⟨by omega, by omega, by omega, by omega⟩, for_range (lo := 1) (n := ((m : Int) + 1 - 1).toNat) (fun i σ H' => H' = H ∧ i < n ∧ ∃ v, σ = [some (.str (numS n)), some (.int m), v]) ⟨rfl, by omega, _, rfl⟩ ?_ ?_⟩
  · rintro i σ H' hi ⟨rfl, hin, v, rfl⟩
    have ec : (1 : Int) + (i : Int) = ((1 + i : Nat) : Int) := by omega
    refine ⟨_, rfl, _, rfl, _, rfl, num_okI (by omega) (by omega), rfl, _, rfl, ite2 (fun c => ?_) (fun c => ?_)⟩
    · have e : numS n = numS (1 + i) := by
        have := of_decide_eq_true c
        rw [ec] at this
        exact V.str.inj this
      have e2 := numS_inj e
      refine ⟨_, rfl, ?_⟩
      show Q (V.int ((1 : Int) + (i : Int))) _
      rw [ec, ← e2]; exact q
    · refine ⟨rfl, ?_, _, rfl⟩
      have : n ≠ 1 + i := fun e => c (by
        refine decide_eq_true ?_
        rw [ec, ← e]; rfl)
      omega
  · rintro σ H' ⟨rfl, hin, v, rfl⟩
    omega
theorem has_read_hands (D : DefAt K mg "_read_hands" s__read_hands) (B : Blt mg) (C : Cst mg) (h__read_number : Has P w K mg base 1 "_read_number" ["word", "most"] spReadNumber) : Has P w K mg base 2 "_read_hands" ["row"] spReadHands := by
  refine D.has (fun _ _ _ _ _ _ us hl => match us, hl with | [_], _ => rfl) fun f fd F => F.ok sc__read_hands (fun vs H Q E h => ?_) (fun cdv A outer s H vs Q E hr h => ?_)
  · obtain ⟨n, rfl, _⟩ := h; rfl
  obtain ⟨n, rfl, n1, n6, q⟩ := h
  refine ⟨_, (pss_cons (ps_set (i := 1) sc__read_hands.nd rfl (.inl rfl) (pe_split (pv 0) pe_str))
      (pss_cons (ps_if (PW.pt (pw_or (pt_cmpR op_ne (pe_callB call_len_seq (by rfl) B.zlen (by decide +kernel) (pa_cons (pv 1) pa_nil)) pe_int (nomark _)) (pw_or1 (pt_cmpR op_ne (pe_ix ix_list (pv 1) pe_int (fun _ _ => rfl)) pe_str (nomark _))))) (pss_one (ps_ret pe_non)) pss_nil)
      (pss_one (ps_ret (pe_h h__read_number (hr.mono (by decide)) (pa_cons (pe_ix ix_list (pv 1) pe_int (fun _ _ => rfl)) (pa_cons (pe_gint C.MOST_HANDS) pa_nil))))))), ?_⟩
  have ln : (handsS n).length + 2 ≤ sizeLine := by
    have := numS_len (n := n) (by omega)
    have l6 : (Str.ofString "hands ").length = 6 := by decide
    refine Nat.le_of_lt (small1000 ?_)
    unfold handsS
    rw [Str.length_append, l6]; omega
  refine ⟨_, rfl, ⟨_, rfl⟩, _, _, rfl, rfl, by decide, ln, fun p hp => ?_⟩
  rw [hands_split]
  have s1 : Same H (upd H p (.lst ([Str.ofString "hands", numS n].map V.str))) := same_new hp
  have e1 : (upd H p (.lst ([Str.ofString "hands", numS n].map V.str))) p = some (.lst [.str (Str.ofString "hands"), .str (numS n)]) := upd_same
  generalize upd H p (.lst ([Str.ofString "hands", numS n].map V.str)) = H1 at s1 e1
  refine ⟨_, rfl, p, _, rfl, .inl (SqL.of e1), rfl, _, rfl, iteF ?_⟩
  refine ⟨_, rfl, p, _, 0, _, rfl, rfl, SqL.of e1, atI_nat (j := 0) rfl, rfl, _, rfl, iteNS rfl ?_⟩
  refine ⟨_, rfl, p, _, 1, _, rfl, rfl, SqL.of e1, atI_nat (j := 1) rfl, n, 6, rfl, n1, n6, by decide, q _ s1⟩
theorem has_read_work (D : DefAt K mg "_read_work" s__read_work) (B : Blt mg) (C : Cst mg) (h__read_number : Has P w K mg base 1 "_read_number" ["word", "most"] spReadNumber)
    (h_is_name : Has P w K mg base 1 "is_name" ["value"] spIsName) (h_is_share : Has P w K mg base 3 "is_share" ["value"] spIsShare) : Has P w K mg base 4 "_read_work" ["row"] spReadWork := by
  refine D.has (fun _ _ _ _ _ _ us hl => match us, hl with | [_], _ => rfl) fun f fd F => F.ok sc__read_work (fun vs H Q E h => ?_) (fun cdv A outer s H vs Q E hr h => ?_)
  · obtain ⟨j, rfl, _⟩ := h; rfl
  obtain ⟨j, rfl, ht, hg, q⟩ := h
  refine ⟨_, (pss_cons (ps_set (i := 1) sc__read_work.nd rfl (.inl rfl) (pe_split (pv 0) pe_str))
      (pss_cons (ps_if (PW.pt (pw_or (pt_cmpR op_ne (pe_callB call_len_seq (by rfl) B.zlen (by decide +kernel) (pa_cons (pv 1) pa_nil)) pe_int (nomark _)) (pw_or (pt_cmpR op_ne (pe_ix ix_list (pv 1) pe_int (fun _ _ => rfl)) pe_str (nomark _)) (pw_or1 (pt_not (pt_val (pe_h h_is_name (hr.mono (by decide)) (pa_cons (pe_ix ix_list (pv 1) pe_int (fun _ _ => rfl)) pa_nil)))))))) (pss_one (ps_ret pe_non)) pss_nil)
      (pss_cons (ps_set (i := 3) sc__read_work.nd rfl (.inl rfl) (pe_callTy call_tuple_of (by rfl) B.ztuple (by decide +kernel) (pa_cons (pe_lc (own := [("word", 2)]) rfl sc__read_work.nd (pi_list (pe_split (pe_ix ix_list (pv 1) pe_int (fun _ _ => rfl)) pe_str)) (blkOk_by (N := ["row", "words", "word", "share"]) (sc := defScope s__read_work) (own := [("word", 2)]) (by decide +kernel)) (fun _ _ _ _ _ => (pg_name (i := 2) sc__read_work.nd rfl (.inl rfl) (.inr rfl))) (fun _ _ _ _ _ => pts_nil) (fun _ _ _ _ _ => (pe_h h__read_number (hr.mono (by decide)) (pa_cons (pv 2) (pa_cons (pe_gint C.MOST_PERIOD) pa_nil))))) pa_nil)))
      (pss_cons (ps_if (pt_not (pt_val (pe_h h_is_share (hr.mono (by decide)) (pa_cons (pv 3) pa_nil)))) (pss_one (ps_ret pe_non)) pss_nil)
      (pss_one (ps_ret (pe_tup (pa_cons (pe_ix ix_list (pv 1) pe_int (fun _ _ => rfl)) (pa_cons (pv 3) pa_nil))))))))), ?_⟩
  have hg2 : GoodPart 1000 j.2.1 j.2.2 := ⟨hg.1, hg.2.1, Nat.le_trans hg.2.2.1 (by decide), hg.2.2.2⟩
  obtain ⟨g1, g2, g3, g4⟩ := id hg
  have ln : (rowS j).length + 2 ≤ sizeLine := Nat.le_of_lt (small1000 (by have := rowS_len ht hg2; omega))
  refine ⟨_, rfl, ⟨_, rfl⟩, _, _, rfl, rfl, by decide, ln, fun p hp => ?_⟩
  rw [row_split ht]
  generalize hw2 : Txt.join (Str.ofString "/") [numS j.2.1, numS j.2.2] = w2
  have s1 : Same H (upd H p (.lst ([Str.ofString "work", j.1, w2].map V.str))) := same_new hp
  have e1 : (upd H p (.lst ([Str.ofString "work", j.1, w2].map V.str))) p = some (.lst [.str (Str.ofString "work"), .str j.1, .str w2]) := upd_same
  generalize upd H p (.lst ([Str.ofString "work", j.1, w2].map V.str)) = H1 at s1 e1
  refine ⟨_, rfl, p, _, rfl, .inl (SqL.of e1), rfl, _, rfl, iteF ?_⟩
  refine ⟨_, rfl, p, _, 0, _, rfl, rfl, SqL.of e1, atI_nat (j := 0) rfl, rfl, _, rfl, iteNS rfl ?_⟩
  refine ⟨_, rfl, p, _, 1, _, rfl, rfl, SqL.of e1, atI_nat (j := 1) rfl, j.1, rfl, ht, fun H2 s2 => ⟨true, rfl, iteF ?_⟩⟩
  have e2 := s2 _ _ e1
  -- the share's two sides
  have l2 : w2.length + 2 ≤ sizeLine := by
    rw [← hw2, join_two, Str.length_append, Str.length_append]
    have a := numS_len (n := j.2.1) (by omega)
    have b := numS_len (n := j.2.2) (by omega)
    have c : (Str.ofString "/").length = 1 := by decide
    exact Nat.le_of_lt (small1000 (by omega))
  refine ⟨_, rfl, p, _, 2, _, rfl, rfl, SqL.of e2, atI_nat (j := 2) rfl, ⟨_, rfl⟩, _, _, rfl, rfl, by decide, l2, fun p3 hp3 => ?_⟩
  rw [← hw2, part_split]
  have s3 : Same H2 (upd H2 p3 (.lst ([numS j.2.1, numS j.2.2].map V.str))) := same_new hp3
  have e3 : (upd H2 p3 (.lst ([numS j.2.1, numS j.2.2].map V.str))) p3 = some (.lst [.str (numS j.2.1), .str (numS j.2.2)]) := upd_same
  generalize upd H2 p3 (.lst ([numS j.2.1, numS j.2.2].map V.str)) = H3 at s3 e3
  refine ⟨p3, rfl, ⟨_, SqL.of e3⟩, fun D4 hD4 => lc_list (K := K) (a := p3) (xs := [.str (numS j.2.1), .str (numS j.2.2)]) (fun i H4 => Same H3 H4 ∧ H4 D4 = some (.lst (([(j.2.1 : Int), (j.2.2 : Int)].take i).map V.int))) ⟨same_new hD4, upd_same⟩ (fun _ _ _ z => SqL.of (z.1 _ _ e3)) ?_ ?_⟩
  · rintro i x H4 hx ⟨s4, e4⟩
    match i, hx with
    | 0, hx =>
      obtain rfl : V.str (numS j.2.1) = x := Option.some.inj hx
      exact ⟨rfl, yesIf ⟨_, rfl, j.2.1, 16, rfl, g1, by omega, by decide, _, e4, by show 0 < sizeLine; decide, Same.app hD4 s4, upd_same⟩⟩
    | 1, hx =>
      obtain rfl : V.str (numS j.2.2) = x := Option.some.inj hx
      exact ⟨rfl, yesIf ⟨_, rfl, j.2.2, 16, rfl, by omega, g3, by decide, _, e4, by show 1 < sizeLine; decide, Same.app hD4 s4, upd_same⟩⟩
  rintro H4 ⟨s4, e4⟩
  have e4 : H4 D4 = some (.lst [.int (j.2.1 : Int), .int (j.2.2 : Int)]) := e4
  refine ⟨D4, _, rfl, .inl ⟨SqL.of e4, fun p5 hp5 => ?_⟩⟩
  have s5 : Same H4 (upd H4 p5 (.tup [.int (j.2.1 : Int), .int (j.2.2 : Int)])) := same_new hp5
  have e5 : (upd H4 p5 (.tup [.int (j.2.1 : Int), .int (j.2.2 : Int)])) p5 = some (.tup [.int (j.2.1 : Int), .int (j.2.2 : Int)]) := upd_same
  generalize upd H4 p5 (.tup [.int (j.2.1 : Int), .int (j.2.2 : Int)]) = H5 at s5 e5
  refine ⟨_, rfl, p5, _, _, rfl, e5, hg, true, rfl, iteF ?_⟩
  have e6 := s5 _ _ (s4 _ _ (s3 _ _ e2))
  refine ⟨_, rfl, p, _, 1, _, rfl, rfl, SqL.of e6, atI_nat (j := 1) rfl, _, rfl, by show 2 ≤ sizeLine; decide, fun p6 hp6 => ?_⟩
  exact q p6 p5 _ ((s1.trans (s2.trans (s3.trans (s4.trans s5)))).trans (same_new hp6)) upd_same (same_new hp6 _ _ e5)
end
end Ts
namespace Ts
open PySem PySem.Spec PyProof.Rows L2
section
variable {P : Program} {w : World} {K : PySem.W.Frag} {mg : Str → Option Value} {base : Heap}
theorem not_again {js : List Job} {i : Nat} {j y : Job} (h : (js.map (·.1)).Nodup) (hj : js[i]? = some j) (hy : y ∈ js.take i) (e : y.1 = j.1) : False := by
  have h2 : (js.take (i + 1)).map (·.1) = (js.take i).map (·.1) ++ [j.1] := map_take_succ _ hj
  have h3 : ((js.take (i + 1)).map (·.1)).Nodup := by rw [List.map_take]; exact h.sublist (List.take_sublist _ _)
  rw [h2] at h3
  exact (List.nodup_append.mp h3).2.2 y.1 (List.mem_map_of_mem hy) j.1 (by simp) e
theorem parts_cast (js : List Job) (t : Nat) : (js.map fun j => ((j.2.1 * (t / j.2.2) : Nat) : Int)).sum = ((partsN js t : Nat) : Int) := by
  unfold partsN
  induction js with
  | nil => rfl
  | cons j js ih =>
    rw [List.map_cons, List.map_cons, List.sum_cons, List.sum_cons, ih]
    omega
theorem has_read_works (D : DefAt K mg "_read_works" s__read_works) (B : Blt mg) (h__read_work : Has P w K mg base 4 "_read_work" ["row"] spReadWork) : Has P w K mg base 5 "_read_works" ["rows"] (spReadWorks K) := by
  refine D.has (fun _ _ _ _ _ _ us hl => match us, hl with | [_], _ => rfl) fun f fd F => F.ok sc__read_works (fun vs H Q E h => ?_) (fun cdv A outer s H vs Q E hr h => ?_)
  · obtain ⟨a, js, rfl, _⟩ := h; rfl
  obtain ⟨a, js, rfl, hS, G, hl, q⟩ := h
  have hu := hu_of hr
  refine ⟨_, (pss_cons (ps_set (i := 1) sc__read_works.nd rfl (.inl rfl) pe_dnewK)
      (pss_cons (ps_for PassesOwn.never rfl (pi_list (pv 0)) (pg_name (i := 2) sc__read_works.nd rfl (.inl rfl)) (pss_cons (ps_set (i := 3) sc__read_works.nd rfl (.inl rfl) (pe_h h__read_work (hr.mono (by decide)) (pa_cons (pv 2) pa_nil)))
      (pss_cons (ps_if (PW.pt (pw_or (pt_cmpR op_isN (pv 3) pe_non (nomark _)) (pw_or1 (pt_cmp (pc_din hu (pe_ix ix_tup (pv 3) pe_int (fun _ _ => rfl)) (pv 1)))))) (pss_one (ps_ret pe_non)) pss_nil)
      (pss_one (ps_dput hu (pv 1) (pe_ix ix_tup (pv 3) pe_int (fun _ _ => rfl)) (pe_ix ix_tup (pv 3) pe_int (fun _ _ => rfl)) rfl)))))
      (pss_one (ps_ret (pv 1))))), ?_⟩
  refine fun d hd => ?_
  have s1 : Same H (upd H d (.dK [])) := same_new hd
  have lx : ((js.map rowS).map V.str).length = js.length := by rw [List.length_map, List.length_map]
  refine ⟨_, rfl, a, rfl, ⟨_, s1.seq hS⟩, for_list (K := K) (a := a) (xs := (js.map rowS).map V.str) (fun i σ H2 => Same H H2 ∧ ∃ (kvs : List (Key × V)) (v1 v2 : Option V), H2 d = some (.dK kvs) ∧ KvsOf K (hid d H2) kvs (js.take i) ∧ σ = [some (.ref a), some (.ref d), v1, v2])
    ⟨s1, [], _, _, upd_same, ⟨rfl, .nil⟩, rfl⟩ (fun _ _ _ _ z => z.1.seq hS) ?_ ?_⟩
  · rintro i x σ H2 hx ⟨sm, kvs, v1, v2, e2, ⟨k1, k2⟩, rfl⟩
    obtain ⟨j, hj, rfl⟩ : ∃ j, js[i]? = some j ∧ x = .str (rowS j) := by
      rw [List.map_map, List.getElem?_map] at hx
      cases e : js[i]? with
      | none => rw [e] at hx; cases hx
      | some j => rw [e] at hx; exact ⟨j, rfl, (Option.some.inj hx).symm⟩
    have hjm : j ∈ js := List.mem_of_getElem? hj
    have hil : i < js.length := (List.getElem?_eq_some_iff.mp hj).1
    refine ⟨_, rfl, j, rfl, G.tag j hjm, G.part j hjm, fun p pq H3 s3 ep eq => ?_⟩
    have e3 := s3 _ _ e2
    have npd : p ≠ d := ne_of ep e3 (by intro z; cases z)
    have nqd : pq ≠ d := ne_of eq e3 (by intro z; cases z)
    -- is it none, or there already
    refine ⟨_, rfl, rfl, _, rfl, iteF ?_⟩
    have kl : kvs.length = i := by
      have := congrArg List.length k1
      rw [List.length_map, List.length_map, List.length_take] at this
      omega
    have hnew : valV kvs (Sum.inr j.1 : Key) = none := by
      cases z : valV kvs (Sum.inr j.1 : Key) with
      | none => rfl
      | some v =>
        have hm := valV_in z
        rw [k1] at hm
        obtain ⟨y, hy, e⟩ := List.mem_map.mp hm
        exact (not_again G.nd hj hy (Sum.inr.inj e)).elim
    refine ⟨_, rfl, p, _, 0, _, rfl, rfl, SqT.of ep, atI_nat (j := 0) rfl, _, rfl, d, _, rfl, DGet.k (k := Sum.inr j.1) e3, _, rfl, ?_⟩
    rw [hnew]
    refine iteF ?_
    refine ⟨_, rfl, p, _, 1, _, rfl, rfl, SqT.of ep, atI_nat (j := 1) rfl, _, rfl, _, rfl, p, _, 0, _, rfl, rfl, SqT.of ep, atI_nat (j := 0) rfl, d, _, rfl, DPut.k (k := Sum.inr j.1) e3 (small1000 (by omega)), ?_⟩
    have s4 : Same H (upd H3 d (.dK (putK kvs (Sum.inr j.1) (.ref pq)))) := Same.app hd (sm.trans s3)
    refine ⟨s4, _, _, _, upd_same, ?_, rfl⟩
    rw [putK_new _ hnew]
    refine ⟨?_, ?_⟩
    · rw [List.map_append, k1, map_take_succ _ hj]; rfl
    · rw [List.map_append, map_take_succ _ hj]
      refine (k2.mono fun b o z => ?_).snoc ?_
      · obtain ⟨z1, z2⟩ := hid_some z
        rw [hid_ne z1, upd_ne z1]
        exact s3 _ _ z2
      · exact .tup (SqT.of (by rw [hid_ne nqd, upd_ne nqd]; exact eq)) (.cons (.int _) (.cons (.int _) .nil))
  · rintro σ H2 ⟨sm, kvs, v1, v2, e2, kk, rfl⟩
    rw [lx, List.take_length] at kk
    exact ⟨_, rfl, q d kvs H2 sm hd e2 ⟨kk.1, kk.2.mono hid_sub⟩⟩
theorem has_span_of (D : DefAt K mg "_span_of" s__span_of) (B : Blt mg) : Has P w K mg base 1 "_span_of" ["shares"] (spSpanOf K) := by
  refine D.has (fun _ _ _ _ _ _ us hl => match us, hl with | [_], _ => rfl) fun f fd F => F.ok sc__span_of (fun vs H Q E h => ?_) (fun cdv A outer s H vs Q E hr h => ?_)
  · obtain ⟨a, xs, js, rfl, _⟩ := h; rfl
  obtain ⟨a, xs, js, rfl, hS, hA, G, q⟩ := h
  refine ⟨_, (pss_cons (ps_set (i := 1) sc__span_of.nd rfl (.inl rfl) pe_int)
      (pss_cons (ps_for PassesOwn.never rfl (pi_tup (pv 0)) (pg_tup rfl (pgs_cons (pg_name (i := 2) sc__span_of.nd rfl (.inl rfl)) (pgs_cons (pg_name (i := 3) sc__span_of.nd rfl (.inl rfl)) pgs_nil))) (pss_one (ps_set (i := 1) sc__span_of.nd rfl (.inl rfl) (pe_callBfun cr_lcm (by rfl) B.g_lcm (pa_cons (pv 1) (pa_cons (pv 3) pa_nil))))))
      (pss_one (ps_ret (pv 1))))), ?_⟩
  have lx : xs.length = js.length := by rw [hA.length]; exact List.length_map _
  refine ⟨_, rfl, a, rfl, ⟨_, hS⟩, for_tup (K := K) (a := a) (xs := xs) (fun i σ H2 => H2 = H ∧ ∃ (v1 v2 : Option V), σ = [some (.ref a), some (.int (spanN (js.take i))), v1, v2]) ⟨rfl, _, _, rfl⟩ (fun _ _ _ _ z => z.1 ▸ hS) ?_ ?_⟩
  · rintro i x σ H2 hx ⟨rfl, v1, v2, rfl⟩
    obtain ⟨d, hd, hv⟩ := hA.get hx
    unfold sharesD at hd
    rw [List.getElem?_map] at hd
    cases ej : js[i]? with
    | none => rw [ej] at hd; cases hd
    | some j =>
      rw [ej] at hd
      have ed : partD j.2.1 j.2.2 = d := Option.some.inj hd
      subst ed
      obtain ⟨b, ys, rfl, hb, hy⟩ := hv.tuple
      obtain ⟨y1, y2, rfl, h1, h2⟩ := hy.two
      have hjm : j ∈ js := List.mem_of_getElem? ej
      obtain ⟨g1, g2, g3, _⟩ := G.part j hjm
      have gt : Good 16 (js.take i) := ⟨by rw [List.map_take]; exact G.nd.sublist (List.take_sublist _ _), fun k hk => G.tag k (List.mem_of_mem_take hk), fun k hk => G.part k (List.mem_of_mem_take hk)⟩
      have sl := span_le gt
      have en : spanN (js.take (i + 1)) = Nat.lcm (spanN (js.take i)) j.2.2 := by
        unfold spanN
        rw [List.take_add_one, ej, List.foldl_append]; rfl
      refine ⟨b, _, rfl, hb, rfl, _, _, rfl, _, _, rfl, rfl, _, rfl, _, rfl, spanN (js.take i), j.2.2, ?_, by omega, by omega, rfl, some y1, some y2, ?_⟩
      · rw [h2.int_eq]
      · rw [en]; rfl
  · rintro σ H2 ⟨rfl, v1, v2, rfl⟩
    rw [lx, List.take_length]
    exact ⟨_, rfl, q _ (Same.refl _)⟩
theorem has_total_of (D : DefAt K mg "_total_of" s__total_of) (B : Blt mg) : Has P w K mg base 1 "_total_of" ["shares", "span"] (spTotalOf K) := by
  refine D.has (fun _ _ _ _ _ _ us hl => match us, hl with | [_, _], _ => rfl) fun f fd F => F.ok sc__total_of (fun vs H Q E h => ?_) (fun cdv A outer s H vs Q E hr h => ?_)
  · obtain ⟨a, xs, js, rfl, _⟩ := h; rfl
  obtain ⟨a, xs, js, rfl, hS, hA, G, hl, q⟩ := h
  refine ⟨_, (pss_cons (ps_set (i := 4) sc__total_of.nd rfl (.inl rfl) (pe_callB (cr_sum rfl) (by rfl) B.zsum (by decide +kernel) (pa_cons (pe_lc (own := [("top", 2), ("bottom", 3)]) rfl sc__total_of.nd (pi_tup (pv 0)) (blkOk_by (N := ["shares", "span", "top", "bottom", "parts", "common"]) (sc := defScope s__total_of) (own := [("top", 2), ("bottom", 3)]) (by decide +kernel)) (fun _ _ _ _ _ => (pg_tupK (K := K) (n := 2) rfl rfl (pgs_cons (pg_name (i := 2) sc__total_of.nd rfl (.inl rfl) (.inr rfl)) (pgs_cons (pg_name (i := 3) sc__total_of.nd rfl (.inl rfl) (.inr rfl)) pgs_nil)))) (fun _ _ _ _ _ => pts_nil) (fun _ _ _ _ _ => (pe_op op_mul (pv 2) (pe_op op_fdiv (pv 1) (pv 3))))) pa_nil)))
      (pss_cons (ps_set (i := 5) sc__total_of.nd rfl (.inl rfl) (pe_callBfun cr_gcd (by rfl) B.g_gcd (pa_cons (pv 4) (pa_cons (pv 1) pa_nil))))
      (pss_one (ps_ret (pe_tup (pa_cons (pe_op op_fdiv (pv 4) (pv 5)) (pa_cons (pe_op op_fdiv (pv 1) (pv 5)) pa_nil))))))), ?_⟩
  have lx : xs.length = js.length := by rw [hA.length]; exact List.length_map _
  have sp := span_pos G
  have sl := span_le G
  refine ⟨_, rfl, a, rfl, ⟨_, hS⟩, fun D2 hD => lc_tup (K := K) (a := a) (xs := xs) (fun i H2 => Same H H2 ∧ H2 D2 = some (.lst (((js.take i).map fun j => ((j.2.1 * (spanN js / j.2.2) : Nat) : Int)).map V.int))) ⟨same_new hD, upd_same⟩ (fun _ _ _ z => sameT z.1 hS) ?_ ?_⟩
  · rintro i x H2 hx ⟨sm, e2⟩
    obtain ⟨d, hd, hv⟩ := hA.get hx
    unfold sharesD at hd
    rw [List.getElem?_map] at hd
    cases ej : js[i]? with
    | none => rw [ej] at hd; cases hd
    | some j =>
      rw [ej] at hd
      have ed : partD j.2.1 j.2.2 = d := Option.some.inj hd
      subst ed
      obtain ⟨b, ys, rfl, hb, hy⟩ := hv.tuple
      obtain ⟨y1, y2, rfl, h1, h2⟩ := hy.two
      have hjm : j ∈ js := List.mem_of_getElem? ej
      obtain ⟨g1, g2, g3, _⟩ := G.part j hjm
      have y1' := h1.int_eq
      have y2' := h2.int_eq
      subst y1' y2'
      have cd : CDiv (spanN js : Int) (j.2.2 : Int) := ⟨by omega, by omega⟩
      refine ⟨b, _, rfl, sameT sm hb, rfl, _, _, rfl, _, _, rfl, rfl, rfl, yesIf ?_⟩
      refine ⟨_, rfl, _, rfl, _, rfl, _, _, rfl, rfl, cd, _, _, rfl, rfl, .inl ⟨by omega, by omega⟩, _, e2, ?_, Same.app hD sm, ?_⟩
      · rw [List.length_map, List.length_map, List.length_take]
        exact small1000 (by omega)
      · rw [upd_same, map_take_succ _ ej, List.map_append]
        rfl
  · rintro H2 ⟨sm, e2⟩
    rw [lx, List.take_length] at e2
    have es : (js.map fun j => ((j.2.1 * (spanN js / j.2.2) : Nat) : Int)).sum = (partsN js (spanN js) : Int) := by
      exact parts_cast js _
    refine ⟨_, _, rfl, SqL.of e2, ?_⟩
    rw [es]
    have g0 : 0 < Nat.gcd (partsN js (spanN js)) (spanN js) := Nat.gcd_pos_of_pos_right _ sp
    have g1 : Nat.gcd (partsN js (spanN js)) (spanN js) ≤ spanN js := Nat.le_of_dvd sp (Nat.gcd_dvd_right _ _)
    have c1 : CDiv (partsN js (spanN js) : Int) ((Nat.gcd (partsN js (spanN js)) (spanN js) : Nat) : Int) := ⟨by omega, by omega⟩
    have c2 : CDiv (spanN js : Int) ((Nat.gcd (partsN js (spanN js)) (spanN js) : Nat) : Int) := ⟨by omega, by omega⟩
    refine ⟨_, rfl, _, rfl, _, _, rfl, ?_⟩
    refine ⟨_, rfl, _, rfl, _, _, rfl, rfl, c1, _, rfl, _, rfl, _, _, rfl, rfl, c2, by show 2 ≤ sizeLine; decide, fun p hp => ?_⟩
    exact q p _ (sm.trans (same_new hp)) (sm.free hp) upd_same
end
end Ts
namespace Ts
open PySem PySem.Spec PyProof.Rows L2
section
variable {P : Program} {w : World} {K : PySem.W.Frag} {mg : Str → Option Value} {base : Heap}
theorem ok_init {f C : Addr} {fd : FuncData} (F : Fun K "__init__" "Lot.__init__" s_Lot___init__ f fd) (T : LotC K mg C) (B : Blt mg) (C2 : Cst mg) (h__read_hands : Has P w K mg base 2 "_read_hands" ["row"] spReadHands) (h__read_works : Has P w K mg base 5 "_read_works" ["rows"] (spReadWorks K))
    (h__span_of : Has P w K mg base 1 "_span_of" ["shares"] (spSpanOf K)) (h__total_of : Has P w K mg base 1 "_total_of" ["shares", "span"] (spTotalOf K)) : FnOk P w K mg base CX0 6 f fd ["self", "text"] (spInit K C) := by
  refine F.ok sc_Lot___init__ (fun vs H Q E h => ?_) (fun cdv A outer s H vs Q E hr h => ?_)
  · obtain ⟨a, dx, n, js, rfl, _⟩ := h; rfl
  obtain ⟨a, dx, n, js, rfl, ha, n1, n6, G, l0, l6, q⟩ := h
  refine ⟨_, (pss_cons (ps_if (pt_not (pt_val (pe_callB call_isi (by rfl) B.zisinstance (by decide +kernel) (pa_cons (pv 1) (pa_cons (pe_ty "str" B.zstr) pa_nil))))) (pss_one ps_never) pss_nil)
      (pss_cons (ps_asg (pe_split (pv 1) pe_str) (pg_star (i := 2) (j := 3) rfl sc_Lot___init__.nd rfl rfl rfl rfl))
      (pss_cons (ps_set (i := 4) sc_Lot___init__.nd rfl (.inl rfl) (pe_h h__read_hands (hr.mono (by decide)) (pa_cons (pv 2) pa_nil)))
      (pss_cons (ps_set (i := 5) sc_Lot___init__.nd rfl (.inl rfl) (pe_h h__read_works (hr.mono (by decide)) (pa_cons (pv 3) pa_nil)))
      (pss_cons (ps_if (PW.pt (pw_or (pt_cmpR op_isN (pv 4) pe_non (nomark _)) (pw_or (pt_cmpR op_isN (pv 5) pe_non (nomark _)) (pw_or1 (pt_not (pt_chain op_le op_le pe_int (pe_callB call_lenD (by rfl) B.zlen (by decide +kernel) (pa_cons (pv 5) pa_nil)) (pe_gint C2.MOST_WORKS))))))) (pss_one ps_never) pss_nil)
      (pss_cons (ps_fld (pv 0) (pv 1) rfl)
      (pss_cons (ps_fld (pv 0) (pv 4) rfl)
      (pss_cons (ps_fld (pv 0) (pe_callTy (call_tuple_dK rfl) (by rfl) B.ztuple (by decide +kernel) (pa_cons (pv 5) pa_nil)) rfl)
      (pss_cons (ps_fld (pv 0) (pe_tupVals rfl (by rfl) B.ztuple (pv 5)) rfl)
      (pss_cons (ps_fld (pv 0) (pe_h h__span_of (hr.mono (by decide)) (pa_cons (pe_fld (pv 0) rfl) pa_nil)) rfl)
      (pss_one (ps_fld (pv 0) (pe_h h__total_of (hr.mono (by decide)) (pa_cons (pe_fld (pv 0) rfl) (pa_cons (pe_fld (pv 0) rfl) pa_nil))) rfl)))))))))))), ?_⟩
  have G2 := G.mono (show 16 ≤ 1000 by decide)
  refine ⟨_, rfl, _, _, _, _, _, rfl, .ty "str", .base (.str _), kit_ty (r := true) (by decide +kernel), true, rfl, iteF ?_⟩
  -- the rows
  refine ⟨_, rfl, ⟨_, rfl⟩, _, _, rfl, rfl, by decide, Nat.le_of_lt (small1000 (page_len (by omega) G2 (by omega))), fun p hp => ?_⟩
  rw [show Txt.split (pageS n js) (Str.ofString "\n") = rowsOf n js from page_split G.tag]
  have s1 : Same H (upd H p (.lst ((rowsOf n js).map V.str))) := same_new hp
  have e1 : (upd H p (.lst ((rowsOf n js).map V.str))) p = some (.lst (.str (handsS n) :: (js.map rowS).map V.str)) := upd_same
  generalize upd H p (.lst ((rowsOf n js).map V.str)) = H1 at s1 e1
  refine ⟨p, _, _, rfl, SqL.of e1, by rw [List.length_map, List.length_map]; omega, fun p2 hp2 => ?_⟩
  have s2 : Same H1 (upd H1 p2 (.lst ((js.map rowS).map V.str))) := same_new hp2
  have e2 : (upd H1 p2 (.lst ((js.map rowS).map V.str))) p2 = some (.lst ((js.map rowS).map V.str)) := upd_same
  generalize upd H1 p2 (.lst ((js.map rowS).map V.str)) = H2 at s2 e2
  -- hands, works
  refine ⟨_, rfl, n, rfl, n1, n6, fun H3 s3 => ?_⟩
  refine ⟨_, rfl, p2, js, rfl, SqL.of (s3 _ _ e2), G, by omega, fun d kvs H4 s4 hd4 e4 ⟨k1, k2⟩ => ?_⟩
  have kl : kvs.length = js.length := by
    have := congrArg List.length k1
    rw [List.length_map, List.length_map] at this; exact this
  have s04 : Same H H4 := s1.trans (s2.trans (s3.trans s4))
  refine ⟨_, rfl, rfl, _, rfl, iteF ⟨_, rfl, rfl, _, rfl, iteF ?_⟩⟩
  refine ⟨_, rfl, d, kvs, rfl, e4, _, _, rfl, rfl, _, rfl, ?_⟩
  have c1 : decide ((1 : Int) ≤ (kvs.length : Int)) = true := decide_eq_true (by omega)
  have c2 : decide ((kvs.length : Int) ≤ 6) = true := decide_eq_true (by omega)
  rw [c1]
  refine iteT ⟨_, _, rfl, rfl, _, rfl, ?_⟩
  rw [c2]
  refine iteF ?_
  -- the fields
  have few : ∀ fs : List (Str × V), fs.length ≤ 6 → fs.length < 1000 := fun _ h => by omega
  have f0 : (([] : List (Str × V))).length ≤ 0 := Nat.le_refl _
  have f1 := putF_len "_text" (.str (pageS n js)) []
  have nda : d ≠ a := fun e => by rw [e] at hd4; exact absurd (s1.trans (s2.trans s3) _ _ ha) (by rw [hd4]; exact fun z => nomatch z)
  refine ⟨_, rfl, _, rfl, a, C, dx, _, rfl, s04 _ _ ha, T.cl, T.n1, by show 0 < 1000; decide, ?_⟩
  have b5 : But a H4 (upd H4 a (.ins C dx (putF "_text" (.str (pageS n js)) []))) := But.set
  have e5 : (upd H4 a (.ins C dx (putF "_text" (.str (pageS n js)) []))) a = some (.ins C dx (putF "_text" (.str (pageS n js)) [])) := upd_same
  generalize upd H4 a (.ins C dx (putF "_text" (.str (pageS n js)) [])) = H5 at b5 e5
  refine ⟨_, rfl, _, rfl, a, C, dx, _, rfl, e5, T.cl, T.n2, few _ (by omega), ?_⟩
  have f2 := putF_len "_hands" (.int n) (putF "_text" (.str (pageS n js)) [])
  have b6 : But a H5 (upd H5 a (.ins C dx (putF "_hands" (.int n) (putF "_text" (.str (pageS n js)) [])))) := But.set
  have e6 : (upd H5 a (.ins C dx (putF "_hands" (.int n) (putF "_text" (.str (pageS n js)) [])))) a = some (.ins C dx (putF "_hands" (.int n) (putF "_text" (.str (pageS n js)) []))) := upd_same
  generalize upd H5 a (.ins C dx (putF "_hands" (.int n) (putF "_text" (.str (pageS n js)) []))) = H6 at b6 e6
  generalize hF2 : putF "_hands" (.int n) (putF "_text" (.str (pageS n js)) []) = F2 at f2 e6
  have b46 := b5.trans b6
  -- tuple(works)
  have ed6 := b46 _ _ nda e4
  refine ⟨_, rfl, d, kvs, rfl, ed6, fun pn ob hpn ob1 ob2 => ?_⟩
  have nmap : (kvs.map fun kv => kV kv.1) = js.map (fun j => V.str j.1) := by
    have := congrArg (List.map kV) k1
    rw [List.map_map, List.map_map] at this
    exact this
  rw [nmap]
  have s7 : Same H6 (upd H6 pn (.frz ob (.tup (js.map fun j => V.str j.1)))) := same_new hpn
  have en7 : (upd H6 pn (.frz ob (.tup (js.map fun j => V.str j.1)))) pn = some (.frz ob (.tup (js.map fun j => V.str j.1))) := upd_same
  generalize upd H6 pn (.frz ob (.tup (js.map fun j => V.str j.1))) = H7 at s7 en7
  refine ⟨_, rfl, a, C, dx, _, rfl, s7 _ _ e6, T.cl, T.n3, few _ (by omega), ?_⟩
  have f3 := putF_len "_names" (.ref pn) F2
  have b8 : But a H7 (upd H7 a (.ins C dx (putF "_names" (.ref pn) F2))) := But.set
  have e8 : (upd H7 a (.ins C dx (putF "_names" (.ref pn) F2))) a = some (.ins C dx (putF "_names" (.ref pn) F2)) := upd_same
  have npn : pn ≠ a := ne_of en7 (s7 _ _ e6) (by intro z; cases z)
  generalize upd H7 a (.ins C dx (putF "_names" (.ref pn) F2)) = H8 at b8 e8
  generalize hF3 : putF "_names" (.ref pn) F2 = F3 at f3 e8
  have b48 := (b46.trans (But.of_same s7)).trans b8
  have en8 := b8 _ _ npn en7
  -- tuple(works.values())
  refine ⟨_, rfl, d, kvs, rfl, b48 _ _ nda e4, fun ps hps => ?_⟩
  have s9 : Same H8 (upd H8 ps (.tup (kvs.map (·.2)))) := same_new hps
  have es9 : (upd H8 ps (.tup (kvs.map (·.2)))) ps = some (.tup (kvs.map (·.2))) := upd_same
  generalize upd H8 ps (.tup (kvs.map (·.2))) = H9 at s9 es9
  refine ⟨_, rfl, a, C, dx, _, rfl, s9 _ _ e8, T.cl, T.n4, few _ (by omega), ?_⟩
  have f4 := putF_len "_shares" (.ref ps) F3
  have b10 : But a H9 (upd H9 a (.ins C dx (putF "_shares" (.ref ps) F3))) := But.set
  have e10 : (upd H9 a (.ins C dx (putF "_shares" (.ref ps) F3))) a = some (.ins C dx (putF "_shares" (.ref ps) F3)) := upd_same
  have nps : ps ≠ a := ne_of es9 (s9 _ _ e8) (by intro z; cases z)
  generalize upd H9 a (.ins C dx (putF "_shares" (.ref ps) F3)) = H10 at b10 e10
  have l4 : (putF "_shares" (.ref ps) F3).lookup ("_shares" : Str) = some (.ref ps) := by rw [lookup_putF, if_pos rfl]
  generalize hF4 : putF "_shares" (.ref ps) F3 = F4 at f4 e10 l4
  have b410 := (b48.trans (But.of_same s9)).trans b10
  have en10 := b10 _ _ npn (s9 _ _ en8)
  have es10 := b10 _ _ nps es9
  have hk4 : DpAll K (hid a H4) (kvs.map (·.2)) (sharesD js) := DpAll.hide (s04 _ _ ha) NoSeq.ins k2
  -- the round
  refine ⟨_, rfl, a, C, dx, _, _, rfl, e10, T.cl, T.n4, l4, ps, _, js, rfl, SqT.of es10, (hk4.mono b410.hid).mono hid_sub, G, fun H11 s11 => ?_⟩
  refine ⟨_, rfl, a, C, dx, _, rfl, s11 _ _ e10, T.cl, T.n5, few _ (by omega), ?_⟩
  have f5 := putF_len "_span" (.int (spanN js)) F4
  have b12 : But a H11 (upd H11 a (.ins C dx (putF "_span" (.int (spanN js)) F4))) := But.set
  have e12 : (upd H11 a (.ins C dx (putF "_span" (.int (spanN js)) F4))) a = some (.ins C dx (putF "_span" (.int (spanN js)) F4)) := upd_same
  generalize upd H11 a (.ins C dx (putF "_span" (.int (spanN js)) F4)) = H12 at b12 e12
  have l5 : (putF "_span" (.int (spanN js)) F4).lookup ("_span" : Str) = some (.int (spanN js)) := by rw [lookup_putF, if_pos rfl]
  have l6' : (putF "_span" (.int (spanN js)) F4).lookup ("_shares" : Str) = some (.ref ps) := by rw [lookup_putF, if_neg (by decide +kernel)]; exact l4
  generalize hF5 : putF "_span" (.int (spanN js)) F4 = F5 at f5 e12 l5 l6'
  have b412 := (b410.trans (But.of_same s11)).trans b12
  have en12 := b12 _ _ npn (s11 _ _ en10)
  have es12 := b12 _ _ nps (s11 _ _ es10)
  -- the sum
  refine ⟨_, rfl, a, C, dx, _, _, rfl, e12, T.cl, T.n4, l6', _, rfl, a, C, dx, _, _, rfl, e12, T.cl, T.n5, l5, ps, _, js, rfl, SqT.of es12, (hk4.mono b412.hid).mono hid_sub, G, by omega, fun pt H13 s13 hpt et => ?_⟩
  refine ⟨_, rfl, a, C, dx, _, rfl, s13 _ _ e12, T.cl, T.n6, few _ (by omega), ?_⟩
  have e13 := s13 _ _ e12
  have npt : pt ≠ a := ne_of et e13 (by intro z; cases z)
  have b14 : But a H4 (upd H13 a (.ins C dx (putF "_total" (.ref pt) F5))) := (b412.trans (But.of_same s13)).trans But.set
  refine q _ ((But.of_same s04).trans b14) ⟨dx, pn, ps, pt, ?_, ?_, ?_, ?_⟩
  · rw [upd_same, ← hF5, ← hF4, ← hF3, ← hF2]; rfl
  · have enf : (upd H13 a (.ins C dx (putF "_total" (.ref pt) F5))) pn = some (.frz ob (.tup (js.map fun j => V.str j.1))) := by rw [upd_ne npn]; exact s13 _ _ en12
    exact ⟨ob, enf, ob1, ob2⟩
  · have esf : (upd H13 a (.ins C dx (putF "_total" (.ref pt) F5))) ps = some (.tup (kvs.map (·.2))) := by rw [upd_ne nps]; exact s13 _ _ es12
    exact .tup (SqT.of esf) ((hk4.mono b14.hid).mono hid_sub)
  · have etf : (upd H13 a (.ins C dx (putF "_total" (.ref pt) F5))) pt = some (.tup [.int (totTop js : Int), .int (totBot js : Int)]) := by rw [upd_ne npt]; exact et
    exact .tup (SqT.of etf) (.cons (.int _) (.cons (.int _) .nil))
end
end Ts
namespace Ts
open PySem PySem.Spec PyProof.Rows L2
section
variable {P : Program} {w : World} {K : PySem.W.Frag} {mg : Str → Option Value} {base : Heap}
theorem ok_repr {f C : Addr} {fd : FuncData} (F : Fun K "__repr__" "Lot.__repr__" s_Lot___repr__ f fd) (T : LotC K mg C) (B : Blt mg) : FnOk P w K mg base CX0 1 f fd ["self"] (spRepr K C) := by
  refine F.ok sc_Lot___repr__ (fun vs H Q E h => ?_) (fun cdv A outer s H vs Q E hr h => ?_)
  · obtain ⟨a, n, js, rfl, _⟩ := h; rfl
  obtain ⟨a, n, js, rfl, L, hn, hl, q⟩ := h
  obtain ⟨dx, pn, ps, pt, ha, h1, h2, h3⟩ := L.ex
  refine ⟨_, (pss_one (ps_ret (pe_joined (PJ.cons pe_str (PJ.cons (pe_fmt (pe_callB call_len_seq (by rfl) B.zlen (by decide +kernel) (pa_cons (pe_fld (pv 0) rfl) pa_nil))) (PJ.cons pe_str (PJ.cons (pe_fmt (pe_fld (pv 0) rfl)) (PJ.cons pe_str PJ.nil)))))))), ?_⟩
  have l1 : (Str.ofString "Lot of ").length = 7 := by decide
  have l2 : (Str.ofString " works, ").length = 8 := by decide
  have l3 : (Str.ofString " hands").length = 6 := by decide
  have l4 : (Str.empty : Str).length = 0 := by decide
  have l5 := numS_len (n := js.length) (by omega)
  have l6 := numS_len hn
  have lx : ((js.map (·.1)).map V.str).length = js.length := by rw [List.length_map, List.length_map]
  have big : ∀ {k : Nat}, k ≤ 40 → k ≤ sizeLine := fun h => Nat.le_of_lt (small1000 (by omega))
  refine ⟨_, rfl, big (by rw [Str.length_append, l4, l1]; decide), ?_⟩
  refine ⟨_, rfl, a, C, dx, _, _, rfl, ha, T.cl, T.n3, lot_names, pn, _, rfl, .inr h1.seq, ?_⟩
  rw [lx]
  refine .inr ⟨_, rfl, num_okI (by omega) (by omega), _, rfl, big (by rw [Str.length_append, Str.length_append, l4, l1]; show 0 + 7 + (numS js.length).length ≤ 40; omega), ?_⟩
  refine ⟨_, rfl, big (by rw [Str.length_append, Str.length_append, Str.length_append, l4, l1, l2]; show 0 + 7 + (numS js.length).length + 8 ≤ 40; omega), ?_⟩
  refine ⟨_, rfl, a, C, dx, _, _, rfl, ha, T.cl, T.n2, lot_hands, .inr ⟨_, rfl, num_okI (by omega) (by omega), _, rfl, big (by rw [Str.length_append, Str.length_append, Str.length_append, Str.length_append, l4, l1, l2]; show 0 + 7 + (numS js.length).length + 8 + (numS n).length ≤ 40; omega), ?_⟩⟩
  refine ⟨_, rfl, big (by rw [Str.length_append, Str.length_append, Str.length_append, Str.length_append, Str.length_append, l4, l1, l2, l3]; show 0 + 7 + (numS js.length).length + 8 + (numS n).length + 6 ≤ 40; omega), ?_⟩
  show Q (V.str (Str.empty ++ Str.ofString "Lot of " ++ numS js.length ++ Str.ofString " works, " ++ numS n ++ Str.ofString " hands")) _
  have e0 : Str.empty ++ Str.ofString "Lot of " = Str.ofString "Lot of " := by decide +kernel
  rw [e0]
  exact q
end
end Ts
namespace Ts
open PySem PySem.Spec PyProof.Rows L2
section
variable {P : Program} {w : World} {K : PySem.W.Frag} {mg : Str → Option Value} {base : Heap}
theorem has_check_lot {C : Addr} (D : DefAt K mg "check_lot" s_check_lot) (B : Blt mg) (T : LotC K mg C) (I : LotI K C) : Has P w K mg base 1 "check_lot" ["lot"] (spCheck C) := by
  refine D.has (fun _ _ _ _ _ _ us hl => match us, hl with | [_], _ => rfl) fun f fd F => F.ok sc_check_lot (fun vs H Q E h => ?_) (fun cdv A outer s H vs Q E hr h => ?_)
  · obtain ⟨a, dx, fs, rfl, _⟩ := h; rfl
  obtain ⟨a, dx, fs, rfl, ha, q⟩ := h
  refine ⟨_, (pss_one (ps_if (pt_not (pt_val (pe_callB call_isi (by rfl) B.zisinstance (by decide +kernel) (pa_cons (pv 0) (pa_cons (pe_gref T.mgC) pa_nil))))) (pss_one ps_never) pss_nil)), ?_⟩
  exact ⟨_, rfl, _, _, _, _, _, rfl, .own C, .base (.ins ha T.cl I.ha I.hn I.htk I.hm), kit_self, true, rfl, iteF q⟩
end
end Ts
namespace Ts
open PySem PySem.Spec PyProof.Rows L2
section
variable {P : Program} {w : World} {K : PySem.W.Frag} {mg : Str → Option Value} {base : Heap}
theorem has_check_number (D : DefAt K mg "check_number" s_check_number) (h_is_number : Has P w K mg base 2 "is_number" ["value", "low", "high"] spIsNumber) : Has P w K mg base 3 "check_number" ["number", "low", "high"] spOkNumber := by
  refine D.has (fun _ _ _ _ _ _ us hl => match us, hl with | [_, _, _], _ => rfl) fun f fd F => F.ok sc_check_number (fun vs H Q E h => ?_) (fun cdv A outer s H vs Q E hr h => ?_)
  · obtain ⟨v, lo, hi, rfl, _⟩ := h; rfl
  obtain ⟨v, lo, hi, rfl, h1, h2, q⟩ := h
  refine ⟨_, (pss_one (ps_if (pt_not (pt_val (pe_h h_is_number (hr.mono (by decide)) (pa_cons (pv 0) (pa_cons (pv 1) (pa_cons (pv 2) pa_nil)))))) (pss_one ps_never) pss_nil)), ?_⟩
  refine ⟨_, rfl, _, rfl, _, rfl, v, lo, hi, rfl, ?_⟩
  rw [decide_eq_true (And.intro h1 h2)]
  exact ⟨true, rfl, iteF q⟩
end
end Ts
namespace Ts
open PySem PySem.Spec PyProof.Rows L2
section
variable {P : Program} {w : World} {K : PySem.W.Frag} {mg : Str → Option Value} {base : Heap}
theorem has_quotient_up (D : DefAt K mg "_quotient_up" s__quotient_up) : Has P w K mg base 1 "_quotient_up" ["top", "bottom"] spQUp := by
  refine D.has (fun _ _ _ _ _ _ us hl => match us, hl with | [_, _], _ => rfl) fun f fd F => F.ok sc__quotient_up (fun vs H Q E h => ?_) (fun cdv A outer s H vs Q E hr h => ?_)
  · obtain ⟨a, b, rfl, _⟩ := h; rfl
  obtain ⟨a, b, rfl, h1, h2, q⟩ := h
  refine ⟨_, (pss_one (ps_ret (pe_op op_fdiv (pe_op op_sub (pe_op op_add (pv 0) (pv 1)) pe_int) (pv 1)))), ?_⟩
  exact ⟨_, rfl, _, rfl, _, _, rfl, rfl, _, _, rfl, rfl, _, rfl, _, _, rfl, rfl, ⟨h1, by omega⟩, q⟩
end
end Ts
namespace Ts
open PySem PySem.Spec PyProof.Rows L2
section
variable {P : Program} {w : World} {K : PySem.W.Frag} {mg : Str → Option Value} {base : Heap}
theorem has_check_moment (D : DefAt K mg "check_moment" s_check_moment) (FA : ∃ t, mg "FARTHEST" = some (.int (10 ^ 30) t)) (h_check_number : Has P w K mg base 3 "check_number" ["number", "low", "high"] spOkNumber) : Has P w K mg base 4 "check_moment" ["moment"] spOkMoment := by
  refine D.has (fun _ _ _ _ _ _ us hl => match us, hl with | [_], _ => rfl) fun f fd F => F.ok sc_check_moment (fun vs H Q E h => ?_) (fun cdv A outer s H vs Q E hr h => ?_)
  · obtain ⟨v, rfl, _⟩ := h; rfl
  obtain ⟨v, rfl, h1, h2, q⟩ := h
  refine ⟨_, (pss_one (ps_expr (pe_h h_check_number (hr.mono (by decide)) (pa_cons (pv 0) (pa_cons pe_int (pa_cons (pe_gint FA) pa_nil)))))), ?_⟩
  exact ⟨_, rfl, v, 0, 10 ^ 30, rfl, h1, h2, q⟩
theorem has_turns_of (D : DefAt K mg "turns_of" s_turns_of) (h__quotient_up : Has P w K mg base 1 "_quotient_up" ["top", "bottom"] spQUp) : Has P w K mg base 2 "turns_of" ["share", "moment"] (spOfT K) := by
  refine D.has (fun _ _ _ _ _ _ us hl => match us, hl with | [_, _], _ => rfl) fun f fd F => F.ok sc_turns_of (fun vs H Q E h => ?_) (fun cdv A outer s H vs Q E hr h => ?_)
  · obtain ⟨v, e, p, t, rfl, _⟩ := h; rfl
  obtain ⟨v, e, p, t, rfl, hv, ⟨g1, g2, g3, g4⟩, q⟩ := h
  obtain ⟨a, rfl, hS⟩ := part_at hv
  refine ⟨_, (pss_cons (ps_asg (pv 0) (pg_tup rfl (pgs_cons (pg_name (i := 2) sc_turns_of.nd rfl (.inl rfl)) (pgs_cons (pg_name (i := 3) sc_turns_of.nd rfl (.inl rfl)) pgs_nil))))
      (pss_one (ps_ret (pe_tup (pa_cons (pe_op op_fdiv (pe_op op_mul (pv 1) (pv 2)) (pv 3)) (pa_cons (pe_h h__quotient_up (hr.mono (by decide)) (pa_cons (pe_op op_mul (pv 1) (pv 2)) (pa_cons (pv 3) pa_nil))) pa_nil)))))), ?_⟩
  refine ⟨_, rfl, a, _, rfl, hS, rfl, _, _, rfl, _, _, rfl, rfl, ?_⟩
  refine ⟨_, rfl, _, rfl, _, _, rfl, rfl, .inr ⟨by omega, by omega⟩, _, rfl, _, _, rfl, rfl, ⟨by omega, by omega⟩, ?_⟩
  refine ⟨_, rfl, _, rfl, _, _, rfl, rfl, .inr ⟨by omega, by omega⟩, _, rfl, _, _, rfl, by omega, by omega, ?_⟩
  exact ⟨by show 2 ≤ sizeLine; decide, fun r hr2 => q r _ hr2 (same_new hr2) upd_same⟩
end
end Ts
namespace Ts
open PySem PySem.Spec PyProof.Rows L2
section
variable {P : Program} {w : World} {K : PySem.W.Frag} {mg : Str → Option Value} {base : Heap}
theorem has_all_picks (D : DefAt K mg "all_picks" s_all_picks) : Has P w K mg base 1 "all_picks" ["options"] (spPicks K) := by
  refine D.has (fun _ _ _ _ _ _ us hl => match us, hl with | [_], _ => rfl) fun f fd F => F.ok sc_all_picks (fun vs H Q E h => ?_) (fun cdv A outer s H vs Q E hr h => ?_)
  · obtain ⟨a, os, rfl, _⟩ := h; rfl
  obtain ⟨a, os, rfl, hD, l6, l2, q⟩ := h
  refine ⟨_, (pss_cons (ps_set (i := 1) sc_all_picks.nd rfl (.inl rfl) (pe_lst (pa_cons (pe_tup pa_nil) pa_nil)))
      (pss_cons (ps_for PassesOwn.never rfl (pi_list (pv 0)) (pg_name (i := 2) sc_all_picks.nd rfl (.inr rfl)) (pss_one (ps_setLc2 (vs1 := [4]) (i := 1) (own := [("taken", 3), ("one", 4)]) rfl sc_all_picks.nd rfl rfl (sw_true rfl rfl rfl (by decide +kernel)) (pi_list (pv 1)) (blkOk_by (N := ["options", "picks", "option", "taken", "one"]) (sc := defScope s_all_picks) (own := [("taken", 3), ("one", 4)]) (by decide +kernel)) (by decide) (fun _ _ _ _ _ => (pg_name (i := 3) sc_all_picks.nd rfl (.inl rfl) (.inr rfl))) (fun _ _ _ _ _ => pts_nil) (fun _ _ _ _ _ => ((pi_listK (K := K) rfl) (pv 2))) (fun _ _ _ _ _ => (pg_name (i := 4) sc_all_picks.nd rfl (.inl rfl) (.inr rfl))) (fun _ _ _ _ _ => pts_nil) (fun _ _ _ _ _ => (pe_tup ((pa_starK (K := K) rfl) (pv 3) (pa_cons (pv 4) pa_nil)))))))
      (pss_one (ps_ret (pv 1))))), ?_⟩
  obtain ⟨a2, ys, e0, hS, hA⟩ := hD.list
  cases e0
  have lx : ys.length = os.length := by rw [hA.length, List.length_map]
  refine ⟨by show 0 ≤ sizeLine; decide, fun pt hpt => ⟨by show 1 ≤ sizeLine; decide, fun pl hpl => ?_⟩⟩
  have s1 : Same H (upd (upd H pt (.tup [])) pl (.lst [.ref pt])) := (same_new hpt).trans (same_new hpl)
  have D1 : Dp K (upd (upd H pt (.tup [])) pl (.lst [.ref pt])) (.ref pl) (.list ((picksR (os.take 0)).map rowD)) := .lst (SqL.of upd_same) (.cons (.tup (SqT.of (by rw [upd_ne (ne_of_none upd_same hpl)]; exact upd_same)) .nil) .nil)
  have n1 : H pl = none := (same_new hpt).free hpl
  revert s1 D1
  generalize upd (upd H pt (.tup [])) pl (.lst [.ref pt]) = H1
  intro s1 D1
  refine ⟨_, rfl, a, rfl, ⟨_, s1.seq hS⟩, for_list (K := K) (a := a) (xs := ys) (fun i σ Hn => Same H Hn ∧ ∃ pk v2, H pk = none ∧ Dp K Hn (.ref pk) (.list ((picksR (os.take i)).map rowD)) ∧ σ = [some (.ref a), some (.ref pk), v2, none, none]) ⟨s1, _, _, n1, D1, rfl⟩ (fun _ _ _ _ z => z.1.seq hS) ?_ ?_⟩
  · clear s1 D1
    rintro i v σ H2 hv ⟨s2, pk, v2, npk, D2, rfl⟩
    obtain ⟨d, hd, hv2⟩ := hA.get hv
    rw [List.getElem?_map] at hd
    cases eo : os[i]? with
    | none => rw [eo] at hd; cases hd
    | some o =>
    rw [eo] at hd
    cases Option.some.inj hd
    obtain ⟨oa, us, rfl, hoS, hoA⟩ := hv2.list
    have eu := hoA.ints_eq
    subst eu
    obtain ⟨pk2, rs, e2, hrS, hrA⟩ := D2.list
    cases e2
    have lr : rs.length = (picksR (os.take i)).length := by rw [hrA.length, List.length_map]
    refine ⟨_, rfl, pk, rfl, ⟨_, hrS⟩, fun D hD0 => walk_list (K := K) (a := pk) (xs := rs) (fun k Hm => Same H2 Hm ∧ ∃ acc, Hm D = some (.lst acc) ∧ DpAll K (hid D Hm) acc ((growR ((picksR (os.take i)).take k) o).map rowD)) ⟨same_new hD0, [], upd_same, .nil⟩ (fun _ _ _ z => z.1.seq hrS) ?_ ?_⟩
    · rintro k r H3 hr3 ⟨s3, acc, e3, h3⟩
      obtain ⟨d3, hd3, hv3⟩ := hrA.get hr3
      rw [List.getElem?_map] at hd3
      cases er : (picksR (os.take i))[k]? with
      | none => rw [er] at hd3; cases hd3
      | some r0 =>
      rw [er] at hd3
      cases Option.some.inj hd3
      obtain ⟨ra, rs2, rfl, hraS, hraA⟩ := hv3.tuple
      cases hraA.ints_eq
      have sm := picks_small l2 l6 (i := i)
      have kl : k < (picksR (os.take i)).length := (List.getElem?_eq_some_iff.mp er).1
      have ol := l2 o (List.mem_of_getElem? eo)
      have s23 := s2.trans s3
      refine ⟨rfl, yesIf ⟨_, rfl, oa, rfl, ⟨_, s23.seq hoS⟩, walk_list (K := K) (a := oa) (xs := o.map V.int) (fun m Hm => Same H2 Hm ∧ ∃ acc, Hm D = some (.lst acc) ∧ DpAll K (hid D Hm) acc ((growR ((picksR (os.take i)).take k) o ++ (o.take m).map fun x => r0 ++ [x]).map rowD)) ⟨s3, acc, e3, by simpa using h3⟩ (fun _ _ _ z => (s2.trans z.1).seq hoS) ?_ ?_⟩⟩
      · rintro m x H4 hx ⟨s4, acc4, e4, h4⟩
        rw [List.getElem?_map] at hx
        cases em : o[m]? with
        | none => rw [em] at hx; cases hx
        | some y =>
        rw [em] at hx
        cases Option.some.inj hx
        have l4 := h4.length
        have ml : m < o.length := (List.getElem?_eq_some_iff.mp em).1
        rw [List.length_map, List.length_append, grow_len, List.length_map, List.length_take, List.length_take] at l4
        have l5 : min k (picksR (os.take i)).length * o.length ≤ 64 * 2 := Nat.mul_le_mul (by omega) ol
        refine ⟨rfl, yesIf ?_⟩
        refine ⟨_, rfl, ra, _, rfl, .inl (sameT s4 hraS), _, rfl, ?_, fun pn hpn => ?_⟩
        · have lr0 := picks_each r0 (List.mem_of_getElem? er)
          rw [List.length_take] at lr0
          rw [List.length_append, List.length_map]
          exact Nat.le_of_lt (small1000 (show r0.length + 1 ≤ 1000 by omega))
        have e5 : (upd H4 pn (.tup (r0.map V.int ++ [V.int y]))) pn = some (.tup ((r0 ++ [y]).map V.int)) := by rw [upd_same, List.map_append]; rfl
        have s5 : Same H4 (upd H4 pn (.tup (r0.map V.int ++ [V.int y]))) := same_new hpn
        have npn : pn ≠ D := (ne_of_none e4 hpn).symm
        revert e5 s5
        generalize upd H4 pn (.tup (r0.map V.int ++ [V.int y])) = H5
        intro e5 s5
        refine ⟨acc4, s5 _ _ e4, small1000 (by omega), Same.app hD0 (s4.trans s5), _, upd_same, ?_⟩
        rw [map_take_succ _ em, ← List.append_assoc, List.map_append]
        refine ((h4.mono (hid_same s5)).mono hid_put).snoc (.tup (SqT.of (by rw [hid_ne npn, upd_ne npn]; exact e5)) (DpAll.ints _))
      · rintro H4 ⟨s4, acc4, e4, h4⟩
        refine ⟨s4, acc4, e4, ?_⟩
        rw [grow_snoc er]
        rw [List.length_map, List.take_length] at h4; exact h4
    · rintro H3 ⟨s3, acc, e3, h3⟩
      rw [lr, List.take_length, ← picks_snoc eo] at h3
      exact ⟨s2.trans s3, D, some (.ref oa), s2.free hD0, .lst (SqL.of e3) (h3.mono hid_sub), rfl⟩
  · rintro σ H2 ⟨s2, pk, v2, npk, D2, rfl⟩
    rw [lx, List.take_length] at D2
    exact ⟨_, rfl, q pk H2 npk s2 D2⟩
end
end Ts
namespace Ts
open PySem PySem.Spec PyProof.Rows L2
section
variable {P : Program} {w : World} {K : PySem.W.Frag} {mg : Str → Option Value} {base : Heap}
theorem has_check_round {C : Addr} (D : DefAt K mg "check_round" s_check_round) (T : LotC K mg C) (MR : ∃ t, mg "MOST_ROUND" = some (.int 720 t)) (p_span : PropH P w K mg base C "span" "_span") : Has P w K mg base 3 "check_round" ["lot"] (spCheckRound K C) := by
  refine D.has (fun _ _ _ _ _ _ us hl => match us, hl with | [_], _ => rfl) fun f fd F => F.ok sc_check_round (fun vs H Q E h => ?_) (fun cdv A outer s H vs Q E hr h => ?_)
  · obtain ⟨a, n, js, rfl, _⟩ := h; rfl
  obtain ⟨a, n, js, rfl, L, hs, q⟩ := h
  refine ⟨_, (pss_one (ps_if (pt_cmpR op_gt (pe_ph p_span T.cl (hr.mono (by decide)) (pv 0)) (pe_gint MR) (nomark _)) (pss_one ps_never) pss_nil)), ?_⟩
  obtain ⟨dx, pn, ps, pt, ha, _⟩ := L.ex
  refine ⟨_, rfl, lot_get ha lot_span ?_⟩
  exact ⟨_, _, rfl, rfl, _, rfl, ite2 (fun c => absurd (of_decide_eq_true c : (720 : Int) < (spanN js : Int)) (by omega)) (fun _ => q)⟩
theorem has_numbers_at {C : Addr} (D : DefAt K mg "_numbers_at" s__numbers_at) (T : LotC K mg C) (p_shares : PropH P w K mg base C "shares" "_shares") (h_turns_of : Has P w K mg base 2 "turns_of" ["share", "moment"] (spOfT K)) : Has P w K mg base 3 "_numbers_at" ["lot", "moment"] (spNumbersAt K C) := by
  refine D.has (fun _ _ _ _ _ _ us hl => match us, hl with | [_, _], _ => rfl) fun f fd F => F.ok sc__numbers_at (fun vs H Q E h => ?_) (fun cdv A outer s H vs Q E hr h => ?_)
  · obtain ⟨a, n, js, t, rfl, _⟩ := h; rfl
  obtain ⟨a, n, js, t, rfl, L, G, l6, q⟩ := h
  refine ⟨_, (pss_one (ps_ret (pe_lc (own := [("share", 2)]) rfl sc__numbers_at.nd (pi_tup (pe_ph p_shares T.cl (hr.mono (by decide)) (pv 0))) (blkOk_by (N := ["lot", "moment", "share"]) (sc := defScope s__numbers_at) (own := [("share", 2)]) (by decide +kernel)) (fun _ _ _ _ _ => (pg_name (i := 2) sc__numbers_at.nd rfl (.inl rfl) (.inr rfl))) (fun _ _ _ _ _ => pts_nil) (fun _ _ _ _ _ => (pe_h h_turns_of (hr.mono (by decide)) (pa_cons (pv 2) (pa_cons (pv 1) pa_nil))))))), ?_⟩
  obtain ⟨dx, pn, ps, pt, ha, h1, h2, h3⟩ := L.ex
  obtain ⟨ps2, xs, e, hS, hA⟩ := h2.tuple
  cases e
  have hxl : xs.length = js.length := by rw [hA.length]; exact List.length_map _
  refine ⟨_, rfl, lot_get ha lot_shares ⟨_, rfl, ⟨_, hS⟩, fun pl hpl => ?_⟩⟩
  refine lc_tup (K := K) (a := ps) (xs := xs) (fun i Hm => Same H Hm ∧ ∃ us, Hm pl = some (.lst us) ∧ DpAll K (hid pl Hm) us ((js.take i).map (lohiD t))) ⟨same_new hpl, [], upd_same, .nil⟩ (fun _ _ _ z => sameT z.1 hS) ?_ ?_
  · rintro i x H2 hx ⟨s2, us, e2, hu2⟩
    obtain ⟨d, hd, hv⟩ := hA.get hx
    unfold sharesD at hd
    rw [List.getElem?_map] at hd
    cases ej : js[i]? with
    | none => rw [ej] at hd; cases hd
    | some j =>
    rw [ej] at hd
    cases Option.some.inj hd
    have gp := G.part j (List.mem_of_getElem? ej)
    have lu : us.length < sizeLine := by
      have h := hu2.length
      rw [List.length_map, List.length_take] at h
      exact small1000 (by omega)
    refine ⟨rfl, yesIf ⟨_, rfl, _, rfl, x, j.2.1, j.2.2, t, rfl, hv.mono s2, gp, fun r H3 hr3 s3 e3 => ?_⟩⟩
    have nr : r ≠ pl := (ne_of_none e2 hr3).symm
    refine ⟨us, s3 _ _ e2, lu, Same.app hpl (s2.trans s3), _, upd_same, ?_⟩
    rw [map_take_succ _ ej]
    refine ((hu2.mono (hid_same s3)).mono hid_put).snoc (.tup (SqT.of (by rw [hid_ne nr, upd_ne nr]; exact e3)) (.cons (.int _) (.cons (.int _) .nil)))
  rintro H2 ⟨s2, us, e2, hu2⟩
  rw [hxl, List.take_length] at hu2
  exact q pl H2 hpl s2 (.lst (SqL.of e2) (hu2.mono hid_sub))
theorem ok_standings {C f : Addr} {fd : FuncData} (F : Fun K "standings" "standings" s_standings f fd) (B : Blt mg) (h_check_lot : Has P w K mg base 1 "check_lot" ["lot"] (spCheck C)) (h_check_moment : Has P w K mg base 4 "check_moment" ["moment"] spOkMoment)
    (h_check_round : Has P w K mg base 3 "check_round" ["lot"] (spCheckRound K C)) (h_all_picks : Has P w K mg base 1 "all_picks" ["options"] (spPicks K)) (h__numbers_at : Has P w K mg base 3 "_numbers_at" ["lot", "moment"] (spNumbersAt K C)) :
    FnOk P w K mg base CX0 5 f fd ["lot", "moment"] (spStandings K C) := by
  refine F.ok sc_standings (fun vs H Q E h => ?_) (fun cdv A outer s H vs Q E hr h => ?_)
  · obtain ⟨a, n, js, t, rfl, _⟩ := h; rfl
  obtain ⟨a, n, js, t, rfl, L, G, l6, hs, t0, t1, q⟩ := h
  refine ⟨_, (pss_cons (ps_expr (pe_h h_check_lot (hr.mono (by decide)) (pa_cons (pv 0) pa_nil)))
      (pss_cons (ps_expr (pe_h h_check_moment (hr.mono (by decide)) (pa_cons (pv 1) pa_nil)))
      (pss_cons (ps_expr (pe_h h_check_round (hr.mono (by decide)) (pa_cons (pv 0) pa_nil)))
      (pss_one (ps_ret (pe_callTy call_tuple_of (by rfl) B.ztuple (by decide +kernel) (pa_cons (pe_h h_all_picks (hr.mono (by decide)) (pa_cons (pe_lc (own := [("low", 2), ("high", 3)]) rfl sc_standings.nd (pi_list (pe_h h__numbers_at (hr.mono (by decide)) (pa_cons (pv 0) (pa_cons (pv 1) pa_nil)))) (blkOk_by (N := ["lot", "moment", "low", "high"]) (sc := defScope s_standings) (own := [("low", 2), ("high", 3)]) (by decide +kernel)) (fun _ _ _ _ _ => (pg_tupK (K := K) (n := 2) rfl rfl (pgs_cons (pg_name (i := 2) sc_standings.nd rfl (.inl rfl) (.inr rfl)) (pgs_cons (pg_name (i := 3) sc_standings.nd rfl (.inl rfl) (.inr rfl)) pgs_nil)))) (fun _ _ _ _ _ => pts_nil) (fun _ _ _ _ _ => (pe_listRgF rfl (by rfl) B.zlist (prg_2 (by rfl) B.zrange (pv 2) (pe_op op_add (pv 3) pe_int))))) pa_nil)) pa_nil))))))), ?_⟩
  obtain ⟨dx, pn, ps, pt, ha, _⟩ := L.ex
  refine ⟨_, rfl, a, dx, _, rfl, ha, ?_⟩
  show tSeq _ _ _ _ _
  refine ⟨_, rfl, t, rfl, t0, t1, ?_⟩
  show tSeq _ _ _ _ _
  refine ⟨_, rfl, a, n, js, rfl, L, hs, ?_⟩
  refine ⟨_, rfl, _, rfl, a, n, js, t, rfl, L, G, l6, fun p H1 hp s1 D1 => ?_⟩
  obtain ⟨p2, xs, e, hS, hA⟩ := D1.list
  cases e
  have hxl : xs.length = js.length := by rw [hA.length, List.length_map]
  refine ⟨p, rfl, ⟨_, hS⟩, fun pl hpl => ?_⟩
  refine lc_list (K := K) (a := p) (xs := xs) (fun i Hm => Same H1 Hm ∧ ∃ us, Hm pl = some (.lst us) ∧ DpAll K (hid pl Hm) us ((optsR (js.take i) t).map optD)) ⟨same_new hpl, [], upd_same, .nil⟩ (fun _ _ _ z => z.1.seq hS) ?_ ?_
  · rintro i x H2 hx ⟨s2, us, e2, hu2⟩
    obtain ⟨d, hd, hv⟩ := hA.get hx
    rw [List.getElem?_map] at hd
    cases ej : js[i]? with
    | none => rw [ej] at hd; cases hd
    | some j =>
    rw [ej] at hd
    cases Option.some.inj hd
    obtain ⟨ra, zs, rfl, hr1, hr2⟩ := hv.tuple
    obtain ⟨z1, z2, rfl, hz1, hz2⟩ := hr2.two
    cases hz1.int_eq
    cases hz2.int_eq
    obtain ⟨g1, g2, g3, g4⟩ := G.part j (List.mem_of_getElem? ej)
    obtain ⟨y1, y2, _⟩ := high_range (e := j.2.1) (p := j.2.2) g1 g2 t0
    have lu : us.length < sizeLine := by
      have h := hu2.length
      unfold optsR at h
      rw [List.length_map, List.length_map, List.length_take] at h
      exact small1000 (by omega)
    refine ⟨ra, _, rfl, sameT s2 hr1, rfl, _, _, rfl, _, _, rfl, rfl, rfl, yesIf ?_⟩
    refine ⟨_, rfl, _, rfl, _, _, rfl, rfl, _, _, rfl, rfl, by omega, fun q3 hq3 => ?_⟩
    have nq : q3 ≠ pl := (ne_of_none e2 hq3).symm
    rw [kept_rg (show 0 < j.2.2 by omega)]
    have s3 : Same H2 (upd H2 q3 (.lst ((keptL j.2.1 j.2.2 t).map V.int))) := same_new hq3
    refine ⟨us, s3 _ _ e2, lu, Same.app hpl (s2.trans s3), _, upd_same, ?_⟩
    have e9 : (optsR (js.take (i + 1)) t) = optsR (js.take i) t ++ [keptL j.2.1 j.2.2 t] := map_take_succ _ ej
    rw [e9, List.map_append]
    exact ((hu2.mono (hid_same s3)).mono hid_put).snoc (.lst (SqL.of (by rw [hid_ne nq, upd_ne nq, upd_same])) (DpAll.ints _))
  rintro H2 ⟨s2, us, e2, hu2⟩
  rw [hxl, List.take_length] at hu2
  have s12 := s1.trans s2
  refine ⟨pl, optsR js t, rfl, .lst (SqL.of e2) (hu2.mono hid_sub), by rw [show (optsR js t).length = js.length from List.length_map _]; exact l6, fun o ho => ?_, fun p3 H3 hp3 s3 D3 => ?_⟩
  · unfold optsR at ho
    obtain ⟨j, _, rfl⟩ := List.mem_map.mp ho
    exact kept_len
  obtain ⟨p4, rs, e4, hS4, hA4⟩ := D3.list
  cases e4
  refine ⟨p3, rs, rfl, .inl ⟨hS4, fun p5 hp5 => ?_⟩⟩
  have s5 : Same H3 (upd H3 p5 (.tup rs)) := same_new hp5
  exact q p5 _ (s12.free (s3.free hp5)) (s12.trans (s3.trans s5)) (.tup (SqT.of upd_same) (hA4.mono s5))
end
end Ts
namespace Ts
open PySem PySem.Spec PyProof.Rows L2
section
variable {P : Program} {w : World} {K : PySem.W.Frag} {mg : Str → Option Value} {base : Heap}
theorem has_crew_of (D : DefAt K mg "crew_of" s_crew_of) (B : Blt0 mg) : Has P w K mg base 1 "crew_of" ["members"] (spCrewOf K) := by
  refine D.has (fun _ _ _ _ _ _ us hl => match us, hl with | [_], _ => rfl) fun f fd F => F.ok sc_crew_of (fun vs H Q E h => ?_) (fun cdv A outer s H vs Q E hr h => ?_)
  · obtain ⟨a, ms, rfl, _⟩ := h; rfl
  obtain ⟨a, ms, rfl, hS, hl, hm, q⟩ := h
  refine ⟨_, (pss_one (ps_ret (pe_callB (cr_sum rfl) (by rfl) B.zsum (by decide +kernel) (pa_cons (pe_lc (own := [("at", 1)]) rfl sc_crew_of.nd (pi_list (pv 0)) (blkOk_by (N := ["members", "at"]) (sc := defScope s_crew_of) (own := [("at", 1)]) (by decide +kernel)) (fun _ _ _ _ _ => (pg_name (i := 1) sc_crew_of.nd rfl (.inl rfl) (.inr rfl))) (fun _ _ _ _ _ => pts_nil) (fun _ _ _ _ _ => (pe_op op_shl pe_int (pv 1)))) pa_nil)))), ?_⟩
  refine ⟨_, rfl, a, rfl, ⟨_, hS⟩, fun D2 hD => lc_list (K := K) (a := a) (xs := natV ms) (fun i H2 => Same H H2 ∧ H2 D2 = some (.lst (((ms.take i).map fun m => ((2 ^ m : Nat) : Int)).map V.int))) ⟨same_new hD, upd_same⟩ (fun _ _ _ z => z.1.seq hS) ?_ ?_⟩
  · rintro i x H2 hx ⟨sm, e2⟩
    rw [List.getElem?_map] at hx
    cases ej : ms[i]? with
    | none => rw [ej] at hx; cases hx
    | some m =>
    rw [ej] at hx
    cases Option.some.inj hx
    have m1 := hm m (List.mem_of_getElem? ej)
    refine ⟨rfl, yesIf ⟨_, rfl, _, _, rfl, rfl, ⟨by omega, by omega, by decide⟩, _, e2, ?_, Same.app hD sm, ?_⟩⟩
    · rw [List.length_map, List.length_map, List.length_take]
      exact small1000 (by omega)
    · rw [upd_same, map_take_succ _ ej, List.map_append]
      have e9 : (1 : Int) * 2 ^ ((m : Int)).toNat = ((2 ^ m : Nat) : Int) := by rw [show (1 : Int) = ((1 : Nat) : Int) from rfl, shl_nat, Nat.one_mul]
      show some (HO.lst (_ ++ [V.int (1 * 2 ^ ((m : Int)).toNat)])) = _
      rw [e9]; rfl
  · rintro H2 ⟨sm, e2⟩
    rw [List.length_map, List.take_length] at e2
    refine ⟨_, _, rfl, SqL.of e2, ?_⟩
    have e9 : (ms.map fun m => ((2 ^ m : Nat) : Int)).sum = ((crewN ms : Nat) : Int) := by
      have := natV_sum (ms.map fun m => 2 ^ m)
      rw [List.map_map] at this
      exact this
    rw [e9]
    exact q H2 sm
theorem has_members_of (D : DefAt K mg "members_of" s_members_of) (B : Blt0 mg) : Has P w K mg base 1 "members_of" ["crew"] spMembersOf := by
  refine D.has (fun _ _ _ _ _ _ us hl => match us, hl with | [_], _ => rfl) fun f fd F => F.ok sc_members_of (fun vs H Q E h => ?_) (fun cdv A outer s H vs Q E hr h => ?_)
  · obtain ⟨c, rfl, _⟩ := h; rfl
  obtain ⟨c, rfl, hc, q⟩ := h
  refine ⟨_, (pss_one (ps_ret (pe_callTy call_tuple_of (by rfl) B.ztuple (by decide +kernel) (pa_cons (pe_lc (own := [("at", 1)]) rfl sc_members_of.nd (pi_range1 (by rfl) B.zrange (pa_cons (pe_bits (pv 0)) pa_nil)) (blkOk_by (N := ["crew", "at"]) (sc := defScope s_members_of) (own := [("at", 1)]) (by decide +kernel)) (fun _ _ _ _ _ => (pg_name (i := 1) sc_members_of.nd rfl (.inl rfl) (.inr rfl))) (fun _ _ _ _ _ => (pts_one (pt_truI (pe_op op_and (pe_op op_shr (pv 0) (pv 1)) pe_int)))) (fun _ _ _ _ _ => (pv 1))) pa_nil)))), ?_⟩
  have hb : Builtin.Int.intBits (c : Int) ≤ 10 := by
    have go : ∀ c : Fin 1000, Builtin.Int.intBits ((c.val : Nat) : Int) ≤ 10 := by decide +kernel
    exact go ⟨c, hc⟩
  refine ⟨_, rfl, _, rfl, _, rfl, by omega, by omega, fun D2 hD => ?_⟩
  unfold membersN at q
  revert hb q
  generalize Builtin.Int.intBits (c : Int) = n
  intro q hb
  refine lc_range (lo := 0) (n := ((n : Nat) : Int).toNat) (fun i Hm => Same H Hm ∧ Hm D2 = some (.lst (natV ((List.range i).filter fun a => c / 2 ^ a % 2 == 1)))) ⟨same_new hD, upd_same⟩ ?_ ?_
  · rintro i Hm hi ⟨sm, em⟩
    have hin : i < n := by simpa using hi
    have ei : (0 : Int) + (i : Int) = ((i : Nat) : Int) := by omega
    rw [ei]
    refine ⟨rfl, _, rfl, _, rfl, _, _, rfl, rfl, by omega, _, _, rfl, rfl, _, rfl, ?_⟩
    rw [shr_nat, show (1 : Int) = ((1 : Nat) : Int) from rfl, and_nat, Nat.and_one_is_mod]
    have e9 : ((((c / 2 ^ i % 2 : Nat) : Int)) != 0) = (c / 2 ^ i % 2 == 1) := by
      have : c / 2 ^ i % 2 = 0 ∨ c / 2 ^ i % 2 = 1 := by omega
      rcases this with z | z <;> rw [z] <;> rfl
    rw [e9]
    have ef : (List.range (i + 1)).filter (fun a => c / 2 ^ a % 2 == 1) = (List.range i).filter (fun a => c / 2 ^ a % 2 == 1) ++ if (c / 2 ^ i % 2 == 1) = true then [i] else [] := by
      rw [List.range_succ, List.filter_append, List.filter_cons]
      rfl
    refine ite2 (fun t => ?_) (fun t => ?_)
    · refine ⟨_, rfl, _, em, ?_, Same.app hD sm, ?_⟩
      · refine small1000 ?_
        rw [List.length_map]
        refine Nat.le_trans (List.length_filter_le _ _) ?_
        rw [List.length_range]; omega
      · rw [upd_same, ef, if_pos t]; show some (HO.lst (natV _ ++ [V.int ((i : Nat) : Int)])) = _; rw [natV, natV, List.map_append]; rfl
    · refine ⟨sm, ?_⟩
      rw [ef, if_neg t, List.append_nil]; exact em
  · rintro Hm ⟨sm, em⟩
    rw [Int.toNat_natCast] at em
    refine ⟨D2, _, rfl, .inl ⟨SqL.of em, fun p hp => ?_⟩⟩
    exact q p _ (sm.free hp) (sm.trans (same_new hp)) upd_same
theorem has_sizes_of (D : DefAt K mg "sizes_of_crews" s_sizes_of_crews) (B : Blt0 mg) : Has P w K mg base 1 "sizes_of_crews" ["many"] spSizesOf := by
  refine D.has (fun _ _ _ _ _ _ us hl => match us, hl with | [_], _ => rfl) fun f fd F => F.ok sc_sizes_of_crews (fun vs H Q E h => ?_) (fun cdv A outer s H vs Q E hr h => ?_)
  · obtain ⟨n, rfl, _⟩ := h; rfl
  obtain ⟨n, rfl, hn, q⟩ := h
  refine ⟨_, (pss_cons (ps_set (i := 1) sc_sizes_of_crews.nd rfl (.inl rfl) (pe_lst (pa_cons pe_int pa_nil)))
      (pss_cons (ps_for PassesOwn.never rfl (pi_range1 (by rfl) B.zrange (pa_cons (pv 0) pa_nil)) (pg_name (i := 2) sc_sizes_of_crews.nd rfl (.inl rfl)) (pss_one (ps_set (i := 1) sc_sizes_of_crews.nd rfl (.inl rfl) (pe_lst (StX.pa_star (pv 1) (StX.pa_star (pe_lc (own := [("size", 3)]) rfl sc_sizes_of_crews.nd (pi_list (pv 1)) (blkOk_by (N := ["many", "sizes", "_", "size"]) (sc := defScope s_sizes_of_crews) (own := [("size", 3)]) (by decide +kernel)) (fun _ _ _ _ _ => (pg_name (i := 3) sc_sizes_of_crews.nd rfl (.inl rfl) (.inr rfl))) (fun _ _ _ _ _ => pts_nil) (fun _ _ _ _ _ => (pe_op op_add (pv 3) pe_int))) pa_nil))))))
      (pss_one (ps_ret (pv 1))))), ?_⟩
  refine ⟨by show 1 ≤ sizeLine; decide, fun p0 hp0 => ?_⟩
  refine ⟨_, rfl, _, rfl, by omega, by omega, ?_⟩
  refine for_range (lo := 0) (n := (n : Int).toNat) (fun i σ H2 => ∃ (pk : Addr) (v2 : Option V), H pk = none ∧ Same H H2 ∧ H2 pk = some (.lst (natV (sizesN i))) ∧ σ = [some (.int (n : Int)), some (.ref pk), v2, none]) ⟨p0, _, hp0, same_new hp0, upd_same, rfl⟩ ?_ ?_
  · rintro i σ H2 hi ⟨pk, v2, npk, s2, e2, rfl⟩
    have hin : i < n := by simpa using hi
    have ls : (sizesN i).length ≤ 32 := by rw [sizes_len]; exact Nat.le_trans (Nat.pow_le_pow_right (by decide) (show i ≤ 5 by omega)) (by decide)
    refine ⟨_, rfl, pk, natV (sizesN i), rfl, .inr (SqL.of e2), _, rfl, pk, rfl, ⟨_, SqL.of e2⟩, fun D2 hD => lc_list (K := K) (a := pk) (xs := natV (sizesN i)) (fun j H3 => Same H2 H3 ∧ H3 D2 = some (.lst (natV (((sizesN i).take j).map (· + 1))))) ⟨same_new hD, upd_same⟩ (fun _ _ _ z => SqL.of (z.1 _ _ e2)) ?_ ?_⟩
    · rintro j x H3 hx ⟨s3, e3⟩
      rw [List.getElem?_map] at hx
      cases ej : (sizesN i)[j]? with
      | none => rw [ej] at hx; cases hx
      | some m =>
      rw [ej] at hx
      cases Option.some.inj hx
      refine ⟨rfl, yesIf ⟨_, rfl, _, _, rfl, rfl, _, e3, ?_, Same.app hD s3, ?_⟩⟩
      · rw [List.length_map, List.length_map, List.length_take]
        exact small1000 (by omega)
      · rw [upd_same, map_take_succ _ ej, natV, natV, List.map_append]
        rfl
    · rintro H3 ⟨s3, e3⟩
      rw [List.length_map, List.take_length] at e3
      refine ⟨D2, _, rfl, .inr (SqL.of e3), ?_, fun p hp => ?_⟩
      · rw [List.append_nil, List.length_append, List.length_map, List.length_map, List.length_map]
        exact Nat.le_of_lt (small1000 (by omega))
      refine ⟨p, _, s2.free (s3.free hp), s2.trans (s3.trans (same_new hp)), ?_, rfl⟩
      rw [upd_same, List.append_nil, sizesN, natV, natV, natV, List.map_append]
  · rintro σ H2 ⟨pk, v2, npk, s2, e2, rfl⟩
    rw [Int.toNat_natCast] at e2
    exact ⟨_, rfl, q pk H2 npk s2 e2⟩
theorem has_parts_of (D : DefAt K mg "parts_of_crews" s_parts_of_crews) (B : Blt0 mg) : Has P w K mg base 1 "parts_of_crews" ["many"] (spPartsOf K) := by
  refine D.has (fun _ _ _ _ _ _ us hl => match us, hl with | [_], _ => rfl) fun f fd F => F.ok sc_parts_of_crews (fun vs H Q E h => ?_) (fun cdv A outer s H vs Q E hr h => ?_)
  · obtain ⟨n, rfl, _⟩ := h; rfl
  obtain ⟨n, rfl, hn, q⟩ := h
  refine ⟨_, (pss_cons (ps_set (i := 1) sc_parts_of_crews.nd rfl (.inl rfl) (pe_lst (pa_cons (pe_lst (pa_cons pe_int pa_nil)) pa_nil)))
      (pss_cons (ps_for PassesOwn.never rfl (pi_range1 (by rfl) B.zrange (pa_cons (pv 0) pa_nil)) (pg_name (i := 2) sc_parts_of_crews.nd rfl (.inr rfl)) (pss_one (ps_set (i := 1) sc_parts_of_crews.nd rfl (.inl rfl) (pe_lst (StX.pa_star (pv 1) (StX.pa_star (pe_lc (own := [("within", 3)]) rfl sc_parts_of_crews.nd (pi_list (pv 1)) (blkOk_by (N := ["many", "parts", "at", "within", "part"]) (sc := defScope s_parts_of_crews) (own := [("within", 3)]) (by decide +kernel)) (fun _ _ _ _ _ => (pg_name (i := 3) sc_parts_of_crews.nd rfl (.inl rfl) (.inr rfl))) (fun _ _ _ _ _ => pts_nil) (fun _ _ _ _ _ => (pe_lst ((pa_starK (K := K) rfl) (pv 3) ((pa_starK (K := K) rfl) (pe_lc (own := [("part", 4)]) rfl sc_parts_of_crews.nd ((pi_listK (K := K) rfl) (pv 3)) (blkOk_in (N := ["many", "parts", "at", "within", "part"]) (own := [("part", 4)]) rfl (by decide +kernel)) (fun _ _ _ _ _ => (pg_name (i := 4) sc_parts_of_crews.nd rfl (.inl rfl) (.inr rfl))) (fun _ _ _ _ _ => pts_nil) (fun _ _ _ _ _ => (pe_op op_add (pv 4) (pe_op op_shl pe_int (pv 2))))) pa_nil))))) pa_nil))))))
      (pss_one (ps_ret (pv 1))))), ?_⟩
  refine ⟨by show 1 ≤ sizeLine; decide, fun p0 hp0 => ⟨by show 1 ≤ sizeLine; decide, fun p1 hp1 => ?_⟩⟩
  have s1 : Same H (upd (upd H p0 (.lst [.int 0])) p1 (.lst [.ref p0])) := (same_new hp0).trans (same_new hp1)
  have n1 : H p1 = none := (same_new hp0).free hp1
  have D1 : Dp K (upd (upd H p0 (.lst [.int 0])) p1 (.lst [.ref p0])) (.ref p1) (.list (subsD 0)) := .lst (SqL.of upd_same) (.cons (.lst (SqL.of (by rw [upd_ne (ne_of_none upd_same hp1)]; exact upd_same)) (.cons (.int _) .nil)) .nil)
  revert s1 D1
  generalize upd (upd H p0 (.lst [.int 0])) p1 (.lst [.ref p0]) = H1
  intro s1 D1
  refine ⟨_, rfl, _, rfl, by omega, by omega, ?_⟩
  refine for_range (lo := 0) (n := (n : Int).toNat) (fun i σ H2 => ∃ (pk : Addr) (v2 : Option V), H pk = none ∧ Same H H2 ∧ Dp K H2 (.ref pk) (.list (subsD i)) ∧ σ = [some (.int (n : Int)), some (.ref pk), v2, none, none]) ⟨p1, _, n1, s1, D1, rfl⟩ ?_ ?_
  · clear s1 D1
    rintro i σ H2 hi ⟨pk, v2, npk, s2, D2, rfl⟩
    have hin : i < n := by simpa using hi
    have e0 : (0 : Int) + (i : Int) = (i : Int) := by omega
    rw [e0]
    have lsub : (subsN i).length ≤ 32 := by rw [subs_len]; exact Nat.le_trans (Nat.pow_le_pow_right (by decide) (show i ≤ 5 by omega)) (by decide)
    obtain ⟨pk2, rs, e2, hS, hA⟩ := D2.list
    cases e2
    have lr : rs.length = (subsN i).length := by rw [hA.length, List.length_map]
    refine ⟨_, rfl, pk, rs, rfl, .inr hS, _, rfl, pk, rfl, ⟨_, hS⟩, fun DD hD => lc_list (K := K) (a := pk) (xs := rs) (fun j H3 => Same H2 H3 ∧ ∃ us, H3 DD = some (.lst us) ∧ DpAll K (hid DD H3) us (((subsN i).take j).map fun w => PyData.list (natD (w ++ w.map (· + 2 ^ i))))) ⟨same_new hD, [], upd_same, .nil⟩ (fun _ _ _ z => z.1.seq hS) ?_ ?_⟩
    · rintro j x H3 hx ⟨s3, us, e3, h3⟩
      obtain ⟨d, hd, hv⟩ := hA.get hx
      rw [List.getElem?_map] at hd
      cases ej : (subsN i)[j]? with
      | none => rw [ej] at hd; cases hd
      | some wn =>
      rw [ej] at hd
      cases Option.some.inj hd
      obtain ⟨wa, rfl, hw⟩ := Dp.nats hv
      obtain ⟨wl, _⟩ := subs_in i wn (List.mem_of_getElem? ej)
      have wl2 : wn.length ≤ 32 := Nat.le_trans wl (Nat.le_trans (Nat.pow_le_pow_right (by decide) (show i ≤ 5 by omega)) (by decide))
      have lu : us.length < sizeLine := by
        have h := h3.length
        rw [List.length_map, List.length_take] at h
        exact small1000 (by omega)
      refine ⟨rfl, yesIf ⟨_, rfl, wa, _, rfl, .inr (s3.seq hw), _, rfl, wa, rfl, ⟨_, s3.seq hw⟩, fun D4 hD4 => lc_list (K := K) (a := wa) (xs := natV wn) (fun m H4 => Same H3 H4 ∧ H4 D4 = some (.lst (natV ((wn.take m).map (· + 2 ^ i))))) ⟨same_new hD4, upd_same⟩ (fun _ _ _ z => (s3.trans z.1).seq hw) ?_ ?_⟩⟩
      · rintro m y H4 hy ⟨s4, e4⟩
        rw [List.getElem?_map] at hy
        cases em : wn[m]? with
        | none => rw [em] at hy; cases hy
        | some z =>
        rw [em] at hy
        cases Option.some.inj hy
        refine ⟨rfl, yesIf ⟨_, rfl, _, rfl, _, _, rfl, rfl, ⟨by omega, by omega, by decide⟩, _, _, rfl, rfl, _, e4, ?_, Same.app hD4 s4, ?_⟩⟩
        · rw [List.length_map, List.length_map, List.length_take]
          exact small1000 (by omega)
        · have e9 : (1 : Int) * 2 ^ ((i : Int)).toNat = ((2 ^ i : Nat) : Int) := by rw [show (1 : Int) = ((1 : Nat) : Int) from rfl, shl_nat, Nat.one_mul]
          rw [upd_same, map_take_succ _ em, natV, natV, List.map_append]
          show some (HO.lst (_ ++ [V.int ((z : Int) + 1 * 2 ^ ((i : Int)).toNat)])) = _
          rw [e9]; rfl
      · rintro H4 ⟨s4, e4⟩
        rw [List.length_map, List.take_length] at e4
        refine ⟨D4, _, rfl, .inr (SqL.of e4), ?_, fun p hp => ?_⟩
        · rw [List.append_nil, List.length_append, List.length_map, List.length_map, List.length_map]
          exact Nat.le_of_lt (small1000 (by omega))
        have s5 : Same H3 (upd H4 p (.lst (natV wn ++ (natV (wn.map (· + 2 ^ i)) ++ [])))) := s4.trans (same_new hp)
        have e5 : (upd H4 p (.lst (natV wn ++ (natV (wn.map (· + 2 ^ i)) ++ [])))) p = some (.lst (natV (wn ++ wn.map (· + 2 ^ i)))) := by rw [upd_same, List.append_nil, natV, natV, natV, List.map_append]
        have np : p ≠ DD := (ne_of_none e3 (s4.free hp)).symm
        revert s5 e5
        generalize upd H4 p (.lst (natV wn ++ (natV (wn.map (· + 2 ^ i)) ++ []))) = H5
        intro s5 e5
        refine ⟨us, s5 _ _ e3, lu, Same.app hD (s3.trans s5), _, upd_same, ?_⟩
        rw [map_take_succ _ ej]
        exact ((h3.mono (hid_same s5)).mono hid_put).snoc (.lst (SqL.of (by rw [hid_ne np, upd_ne np]; exact e5)) (dp_nats _))
    · rintro H3 ⟨s3, us, e3, h3⟩
      rw [lr, List.take_length] at h3
      have lu := h3.length
      rw [List.length_map] at lu
      refine ⟨DD, _, rfl, .inr (SqL.of e3), ?_, fun p hp => ?_⟩
      · rw [List.append_nil, List.length_append]
        exact Nat.le_of_lt (small1000 (by omega))
      have np : p ≠ DD := (ne_of_none e3 hp).symm
      refine ⟨p, _, s2.free (s3.free hp), s2.trans (s3.trans (same_new hp)), .lst (SqL.of upd_same) ?_, rfl⟩
      rw [List.append_nil, subsD, subsN, List.map_append, List.map_map]
      exact ((hA.mono s3).append (h3.mono hid_sub)).mono (same_new hp)
  · rintro σ H2 ⟨pk, v2, npk, s2, D2, rfl⟩
    rw [Int.toNat_natCast] at D2
    exact ⟨_, rfl, q pk H2 npk s2 D2⟩
end
end Ts
namespace Ts
open PySem PySem.Spec PyProof.Rows L2
section
variable {P : Program} {w : World} {K : PySem.W.Frag} {mg : Str → Option Value} {base : Heap}
theorem has_grown (D : DefAt K mg "_grown_between" s__grown_between) (B : Blt0 mg) (h_crew_of : Has P w K mg base 1 "crew_of" ["members"] (spCrewOf K)) : Has P w K mg base 2 "_grown_between" ["before", "after"] (spGrown K) := by
  refine D.has (fun _ _ _ _ _ _ us hl => match us, hl with | [_, _], _ => rfl) fun f fd F => F.ok sc__grown_between (fun vs H Q E h => ?_) (fun cdv A outer s H vs Q E hr h => ?_)
  · obtain ⟨a, b, xs, ys, rfl, _⟩ := h; rfl
  obtain ⟨a, b, xs, ys, rfl, hX, hY, hl, l6, q⟩ := h
  refine ⟨_, (pss_one (ps_ret (pe_h h_crew_of (hr.mono (by decide)) (pa_cons (pe_lc (own := [("at", 2), ("low", 3)]) rfl sc__grown_between.nd (pi_enum (by rfl) B.zenumerate (pa_cons (pv 0) pa_nil)) (blkOk_by (N := ["before", "after", "at", "low"]) (sc := defScope s__grown_between) (own := [("at", 2), ("low", 3)]) (by decide +kernel)) (fun _ _ _ _ _ => (pg_tupK (K := K) (n := 2) rfl rfl (pgs_cons (pg_name (i := 2) sc__grown_between.nd rfl (.inl rfl) (.inr rfl)) (pgs_cons (pg_name (i := 3) sc__grown_between.nd rfl (.inl rfl) (.inr rfl)) pgs_nil)))) (fun _ _ _ _ _ => (pts_one (pt_cmpR op_gt (pe_ix (ixL (K := K) rfl) (pv 1) (pv 2) (fun _ _ => rfl)) (pv 3) (nomark _)))) (fun _ _ _ _ _ => (pv 2))) pa_nil)))), ?_⟩
  refine ⟨_, rfl, a, _, rfl, hX, fun D2 hD => ?_⟩
  refine lc_it walk_enum (fun i Hm => Same H Hm ∧ Hm D2 = some (.lst (natV (posL (fun q : Int × Int => decide (q.1 < q.2)) ((xs.zip ys).take i) 0)))) ⟨same_new hD, upd_same⟩ (fun i Hm _ z => z.1.seq hX) ?_ ?_
  · rintro i x Hm H' hi ⟨sm, em⟩ ⟨T, y, z, rfl, hT, rfl, ey, ez⟩
    dsimp only at ey ez
    cases ey
    rw [List.getElem?_map] at ez
    obtain ⟨m, hm, rfl⟩ : ∃ m, xs[i]? = some m ∧ V.int m = z := by
      cases e : xs[i]? with
      | none => rw [e] at ez; cases ez
      | some m => rw [e] at ez; exact ⟨m, rfl, Option.some.inj ez⟩
    have ix : i < xs.length := (List.getElem?_eq_some_iff.mp hm).1
    obtain ⟨n, hn⟩ : ∃ n, ys[i]? = some n := ⟨ys[i], List.getElem?_eq_getElem (by omega)⟩
    have sT : Same Hm (upd Hm T (.tup [.int (i : Int), .int m])) := same_new hT
    have eD : (upd Hm T (.tup [V.int (i : Int), .int m])) D2 = some (.lst (natV (posL (fun q : Int × Int => decide (q.1 < q.2)) ((xs.zip ys).take i) 0))) := sT _ _ em
    have sa := sm.trans sT
    have ez2 : (xs.zip ys)[i]? = some (m, n) := by rw [List.getElem?_zip_eq_some]; exact ⟨hm, hn⟩
    have lz : ((xs.zip ys).take i).length = i := by rw [List.length_take, List.length_zip]; omega
    have et : (xs.zip ys).take (i + 1) = (xs.zip ys).take i ++ [(m, n)] := by rw [List.take_add_one, ez2]; rfl
    refine ⟨T, _, rfl, SqT.of upd_same, rfl, _, _, rfl, _, _, rfl, rfl, rfl, ?_⟩
    refine ⟨_, rfl, _, rfl, b, ys.map V.int, (i : Int), .int n, rfl, rfl, sa.seq hY, atI_nat (by rw [List.getElem?_map, hn]; rfl), _, rfl, _, _, rfl, rfl, _, rfl, ?_⟩
    refine ite2 (fun t => ?_) (fun t => ?_)
    · refine ⟨_, rfl, _, eD, ?_, Same.app hD sa, ?_⟩
      · refine small1000 ?_
        rw [List.length_map]
        have : (posL (fun q : Int × Int => decide (q.1 < q.2)) ((xs.zip ys).take i) 0).length ≤ 6 := by
          refine Nat.le_trans (posL_len _ _ _) ?_
          omega
        omega
      · rw [upd_same, et, posL_snoc, lz, if_pos (show decide ((m, n).1 < (m, n).2) = true from t), Nat.zero_add, natV, natV, List.map_append]; rfl
    · refine ⟨sa, ?_⟩
      rw [et, posL_snoc, if_neg (show ¬ decide ((m, n).1 < (m, n).2) = true from t), List.append_nil]; exact eD
  · rintro Hm ⟨sm, em⟩
    have e0 : (xs.zip ys).take (xs.map V.int).length = xs.zip ys := by
      rw [List.length_map]; exact List.take_of_length_le (by rw [List.length_zip]; omega)
    rw [e0] at em
    have lp := posL_len (fun q : Int × Int => decide (q.1 < q.2)) (xs.zip ys) 0
    have lz : (xs.zip ys).length ≤ 6 := by rw [List.length_zip]; omega
    refine ⟨D2, _, rfl, SqL.of em, by omega, fun m hm => ?_, fun H' s' => q H' (sm.trans s')⟩
    have := posL_in _ _ _ m hm
    omega
theorem has_before (D : DefAt K mg "_standings_before" s__standings_before) (B : Blt0 mg) : Has P w K mg base 1 "_standings_before" ["after", "grown", "not_ahead", "most"] (spBefore K) := by
  refine D.has (fun _ _ _ _ _ _ us hl => match us, hl with | [_, _, _, _], _ => rfl) fun f fd F => F.ok sc__standings_before (fun vs H Q E h => ?_) (fun cdv A outer s H vs Q E hr h => ?_)
  · obtain ⟨c, g, m, b, os, rfl, _⟩ := h; rfl
  obtain ⟨c, g, m, b, os, rfl, hS, l6, ho, hm, q⟩ := h
  refine ⟨_, (pss_cons (ps_set (i := 4) sc__standings_before.nd rfl (.inl rfl) (pe_lst (pa_cons (pv 0) pa_nil)))
      (pss_cons (ps_for PassesOwn.never rfl (pi_enum (by rfl) B.zenumerate (pa_cons (pv 2) pa_nil)) (pg_tup rfl (pgs_cons (pg_name (i := 5) sc__standings_before.nd rfl (.inl rfl)) (pgs_cons (pg_name (i := 6) sc__standings_before.nd rfl (.inr rfl)) pgs_nil))) (pss_cons (ps_set (i := 7) sc__standings_before.nd rfl (.inr rfl) (pe_op op_shl pe_int (pv 5)))
      (pss_cons (ps_set (i := 8) sc__standings_before.nd rfl (.inl rfl) (pe_listZip rfl (by rfl) B.zlist (by rfl) B.zzip (pa_cons (pe_lst (StX.pa_star (pv 4) (pa_cons pe_int pa_nil))) (pa_cons (pe_lst (pa_cons pe_int (StX.pa_star (pv 4) pa_nil))) pa_nil))))
      (pss_one (ps_if (pt_truI (pe_op op_and (pe_op op_shr (pv 1) (pv 5)) pe_int)) (pss_one (ps_setLc (i := 4) (own := [("idle", 9), ("given", 10)]) rfl sc__standings_before.nd rfl rfl (sw_true rfl rfl rfl (by decide +kernel)) (pi_list (pv 8)) (blkOk_by (N := ["after", "grown", "not_ahead", "most", "found", "at", "others", "step", "pairs", "idle", "given", "told", "standings"]) (sc := defScope s__standings_before) (own := [("idle", 9), ("given", 10)]) (by decide +kernel)) (fun _ _ _ _ _ => (pg_tupK (K := K) (n := 2) rfl rfl (pgs_cons (pg_name (i := 9) sc__standings_before.nd rfl (.inl rfl) (.inr rfl)) (pgs_cons (pg_name (i := 10) sc__standings_before.nd rfl (.inl rfl) (.inr rfl)) pgs_nil)))) (fun _ _ _ _ _ => pts_nil) (fun _ _ _ _ _ => (pe_op op_or (pv 10) (pe_op op_shl (pe_op op_and (pv 9) (pv 6)) (pv 7)))))) (pss_one (ps_setLc (i := 4) (own := [("idle", 9), ("given", 10)]) rfl sc__standings_before.nd rfl rfl (sw_true rfl rfl rfl (by decide +kernel)) (pi_list (pv 8)) (blkOk_by (N := ["after", "grown", "not_ahead", "most", "found", "at", "others", "step", "pairs", "idle", "given", "told", "standings"]) (sc := defScope s__standings_before) (own := [("idle", 9), ("given", 10)]) (by decide +kernel)) (fun _ _ _ _ _ => (pg_tupK (K := K) (n := 2) rfl rfl (pgs_cons (pg_name (i := 9) sc__standings_before.nd rfl (.inl rfl) (.inr rfl)) (pgs_cons (pg_name (i := 10) sc__standings_before.nd rfl (.inl rfl) (.inr rfl)) pgs_nil)))) (fun _ _ _ _ _ => pts_nil) (fun _ _ _ _ _ => (pe_op op_or (pv 9) (pe_op op_and (pe_op op_shr (pv 10) (pv 7)) (pv 6)))))))))))
      (pss_cons (ps_set (i := 11) sc__standings_before.nd rfl (.inl rfl) pe_int)
      (pss_cons (ps_for PassesOwn.never rfl (pi_list (pe_slice sl_list (pv 4) po_none (po_some (pe_op op_add (pv 3) pe_int)))) (pg_name (i := 12) sc__standings_before.nd rfl (.inl rfl)) (pss_one (ps_aug (i := 11) sc__standings_before.nd rfl (.inl rfl) (pv 12) ip_bor)))
      (pss_one (ps_ret (pv 11))))))), ?_⟩
  refine ⟨_, rfl, by show 1 ≤ sizeLine; decide, fun p0 hp0 => ?_⟩
  have s0 : Same H (upd H p0 (.lst [.int (c : Int)])) := same_new hp0
  refine ⟨_, rfl, b, _, rfl, s0.seq hS, ?_⟩
  refine for_it walk_enum (fun i σ Hn => Same H Hn ∧ ∃ (pf : Addr) (fs : List Nat) (v5 v6 v7 v8 : Option V), Hn pf = some (.lst (natV fs)) ∧ fs.length = i + 1 ∧ foundN g (os.drop i) i fs = foundN g os 0 [c] ∧ σ = [some (.int (c : Int)), some (.int (g : Int)), some (.ref b), some (.int (m : Int)), some (.ref pf), v5, v6, v7, v8, none, none, none, none])
    ⟨s0, p0, [c], _, _, _, _, upd_same, rfl, rfl, rfl⟩ (fun i σ Hn _ z => z.1.seq hS) ?_ ?_
  · clear s0 hp0
    rintro i x σ H2 H3 hi ⟨s2, pf, fs, v5, v6, v7, v8, e2, lf, hf, rfl⟩ ⟨T, y, z, rfl, hT, rfl, ey, ez⟩
    dsimp only at ey ez
    cases ey
    rw [List.getElem?_map] at ez
    obtain ⟨o, hoi, rfl⟩ : ∃ o, os[i]? = some o ∧ V.int ((o : Nat) : Int) = z := by
      cases e : os[i]? with
      | none => rw [e] at ez; cases ez
      | some m => rw [e] at ez; exact ⟨m, rfl, Option.some.inj ez⟩
    have ol := ho o (List.mem_of_getElem? hoi)
    have il : i < os.length := (List.getElem?_eq_some_iff.mp hoi).1
    have ed : os.drop i = o :: os.drop (i + 1) := by
      rw [List.drop_eq_getElem_cons il]
      rw [List.getElem?_eq_getElem il] at hoi
      rw [Option.some.inj hoi]
    rw [ed] at hf
    have sT : Same H (upd H2 T (.tup [.int ((i : Nat) : Int), .int (o : Int)])) := s2.trans (same_new hT)
    have eT : (upd H2 T (.tup [V.int ((i : Nat) : Int), .int (o : Int)])) pf = some (.lst (natV fs)) := same_new hT _ _ e2
    have tT : (upd H2 T (.tup [V.int ((i : Nat) : Int), .int (o : Int)])) T = some (.tup [.int ((i : Nat) : Int), .int (o : Int)]) := upd_same
    revert sT eT tT
    generalize upd H2 T (.tup [V.int ((i : Nat) : Int), .int (o : Int)]) = H4
    intro s4 e4 t4
    refine ⟨T, _, rfl, SqT.of t4, rfl, _, _, rfl, _, _, rfl, rfl, ?_⟩
    refine ⟨_, rfl, _, _, rfl, rfl, ⟨by omega, by omega, by decide⟩, ?_⟩
    show gName 7 (V.int (1 * 2 ^ ((i : Int)).toNat)) _ _ _
    rw [one_shl]
    refine ⟨_, rfl, pf, _, rfl, .inr (SqL.of e4), by rw [List.length_append, List.length_map]; exact Nat.le_of_lt (small1000 (show fs.length + 1 ≤ 1000 by omega)), fun l1 hl1 => ?_⟩
    have s5 : Same H4 (upd H4 l1 (.lst (natV fs ++ [V.int 0]))) := same_new hl1
    refine ⟨_, rfl, pf, _, rfl, .inr (SqL.of (s5 _ _ e4)), by rw [List.length_cons, List.length_append, List.length_map]; exact Nat.le_of_lt (small1000 (show fs.length + 0 + 1 ≤ 1000 by omega)), fun l2 hl2 => ?_⟩
    have s6 : Same (upd H4 l1 (.lst (natV fs ++ [V.int 0]))) (upd (upd H4 l1 (.lst (natV fs ++ [V.int 0]))) l2 (.lst (V.int 0 :: (natV fs ++ [])))) := same_new hl2
    have q1 : (upd (upd H4 l1 (.lst (natV fs ++ [V.int 0]))) l2 (.lst (V.int 0 :: (natV fs ++ [])))) l1 = some (.lst (natV (fs ++ [0]))) := by
      refine s6 _ _ ?_
      rw [upd_same, natV, natV, List.map_append]; rfl
    have q2 : (upd (upd H4 l1 (.lst (natV fs ++ [V.int 0]))) l2 (.lst (V.int 0 :: (natV fs ++ [])))) l2 = some (.lst (natV (0 :: fs))) := by rw [upd_same, List.append_nil]; rfl
    have s7 := s4.trans (s5.trans s6)
    revert q1 q2 s7
    generalize upd (upd H4 l1 (.lst (natV fs ++ [V.int 0]))) l2 (.lst (V.int 0 :: (natV fs ++ []))) = H5
    intro q1 q2 s7
    have pz : (0 : Int) ≤ ((2 ^ i : Nat) : Int) := Int.natCast_nonneg _
    refine ⟨l1, l2, _, _, rfl, SqL.of q1, SqL.of q2, fun pp ts H6 hpp s8 e8 lts hts => ?_⟩
    have lp : ts.length = (pairN fs).length := by
      rw [lts]; unfold pairN; rw [List.length_zip, List.length_map, List.length_map]
    have lp2 : (pairN fs).length = fs.length + 1 := by unfold pairN; rw [List.length_zip, List.length_append, List.length_cons]; simp
    have at_ : ∀ (j : Nat) (t : Addr), ts[j]? = some t → ∃ a d : Nat, (pairN fs)[j]? = some (a, d) ∧ H6 t = some (.tup [.int (a : Int), .int (d : Int)]) := fun j t hj => by
      have jl := (List.getElem?_eq_some_iff.mp hj).1
      have j1 : j < (fs ++ [0]).length := by rw [List.length_append]; show j < fs.length + 1; omega
      have j2 : j < (0 :: fs).length := by rw [List.length_cons]; omega
      refine ⟨(fs ++ [0])[j], (0 :: fs)[j], ?_, hts j t _ _ hj ?_ ?_⟩
      · unfold pairN
        rw [List.getElem?_zip_eq_some]
        exact ⟨List.getElem?_eq_getElem j1, List.getElem?_eq_getElem j2⟩
      · rw [List.getElem?_map, List.getElem?_eq_getElem j1]; rfl
      · rw [List.getElem?_map, List.getElem?_eq_getElem j2]; rfl
    clear hts q1 q2
    have s9 := s7.trans s8
    dsimp only [List.set]
    have fin : ∀ (D2 : Addr) (H8 : Hp), Same H H8 → H8 D2 = some (.lst (natV ((pairN fs).map fun q => stepN g i o q.2 q.1))) → ∃ (pf : Addr) (fs2 : List Nat), H8 pf = some (.lst (natV fs2)) ∧ fs2.length = i + 1 + 1 ∧ foundN g (os.drop (i + 1)) (i + 1) fs2 = foundN g os 0 [c] ∧ pf = D2 := fun D2 H8 s e => ⟨D2, _, e, by rw [List.length_map, lp2, lf], by rw [← hf]; rfl, rfl⟩
    refine ⟨_, rfl, _, rfl, _, _, rfl, rfl, by omega, _, _, rfl, rfl, _, rfl, ?_⟩
    rw [shr_nat, odd_test]
    refine ite2 (fun tt => ?_) (fun tt => ?_)
    · have tt2 := of_decide_eq_true tt
      refine ⟨_, rfl, pp, rfl, ⟨_, SqL.of e8⟩, fun D2 hD => lc_list (K := K) (a := pp) (xs := ts.map V.ref) (fun j H7 => Same H6 H7 ∧ H7 D2 = some (.lst (natV (((pairN fs).take j).map fun q => stepN g i o q.2 q.1)))) ⟨same_new hD, upd_same⟩ (fun _ _ _ z => SqL.of (z.1 _ _ e8)) ?_ ?_⟩
      · rintro j x H7 hx ⟨sj, ej⟩
        rw [List.getElem?_map] at hx
        cases et : ts[j]? with
        | none => rw [et] at hx; cases hx
        | some t =>
        rw [et] at hx
        cases Option.some.inj hx
        obtain ⟨a, d, hp, ht⟩ := at_ j t et
        refine ⟨t, _, rfl, SqT.of (sj _ _ ht), rfl, _, _, rfl, _, _, rfl, rfl, rfl, yesIf ?_⟩
        refine ⟨_, rfl, _, rfl, _, rfl, _, _, rfl, rfl, _, rfl, _, _, rfl, rfl, ⟨pz, ?_, ?_⟩, _, _, rfl, rfl, _, ej, ?_, Same.app hD sj, ?_⟩
        · have : 2 ^ i ≤ 2 ^ 6 := Nat.pow_le_pow_right (by decide) (by omega)
          omega
        · rw [and_nat]
          have : a &&& o ≤ o := Nat.and_le_right
          show (a &&& o : Nat) < 2 ^ 64
          omega
        · rw [List.length_map, List.length_map, List.length_take]
          exact small1000 (by omega)
        · rw [upd_same, map_take_succ _ hp, natV, natV, List.map_append]
          show some (HO.lst (_ ++ [V.int (Builtin.bitOr (d : Int) (Builtin.bitAnd (a : Int) (o : Int) * 2 ^ (((2 ^ i : Nat) : Int)).toNat))])) = _
          rw [and_nat, shl_nat, or_nat]
          have e9 : stepN g i o d a = d ||| (a &&& o) * 2 ^ 2 ^ i := by unfold stepN; rw [if_pos tt2]
          show _ = some (HO.lst (_ ++ [V.int ((stepN g i o d a : Nat) : Int)]))
          rw [e9]
      · rintro H7 ⟨sj, ej⟩
        rw [List.length_map, lp, List.take_length] at ej
        obtain ⟨pf2, fs2, f1, f2, f3, rfl⟩ := fin D2 H7 (s9.trans sj) ej
        exact ⟨s9.trans sj, pf2, fs2, _, _, _, _, f1, f2, f3, rfl⟩
    · have tt2 : ¬ g / 2 ^ i % 2 = 1 := fun z => tt (decide_eq_true z)
      refine ⟨_, rfl, pp, rfl, ⟨_, SqL.of e8⟩, fun D2 hD => lc_list (K := K) (a := pp) (xs := ts.map V.ref) (fun j H7 => Same H6 H7 ∧ H7 D2 = some (.lst (natV (((pairN fs).take j).map fun q => stepN g i o q.2 q.1)))) ⟨same_new hD, upd_same⟩ (fun _ _ _ z => SqL.of (z.1 _ _ e8)) ?_ ?_⟩
      · rintro j x H7 hx ⟨sj, ej⟩
        rw [List.getElem?_map] at hx
        cases et : ts[j]? with
        | none => rw [et] at hx; cases hx
        | some t =>
        rw [et] at hx
        cases Option.some.inj hx
        obtain ⟨a, d, hp, ht⟩ := at_ j t et
        refine ⟨t, _, rfl, SqT.of (sj _ _ ht), rfl, _, _, rfl, _, _, rfl, rfl, rfl, yesIf ?_⟩
        refine ⟨_, rfl, _, rfl, _, rfl, _, _, rfl, rfl, pz, _, rfl, _, _, rfl, rfl, _, _, rfl, rfl, _, ej, ?_, Same.app hD sj, ?_⟩
        · rw [List.length_map, List.length_map, List.length_take]
          exact small1000 (by omega)
        · rw [upd_same, map_take_succ _ hp, natV, natV, List.map_append]
          show some (HO.lst (_ ++ [V.int (Builtin.bitOr (a : Int) (Builtin.bitAnd ((d : Int) / 2 ^ (((2 ^ i : Nat) : Int)).toNat) (o : Int)))])) = _
          rw [shr_nat, and_nat, or_nat]
          have e9 : stepN g i o d a = a ||| (d / 2 ^ 2 ^ i) &&& o := by unfold stepN; rw [if_neg tt2]
          show _ = some (HO.lst (_ ++ [V.int ((stepN g i o d a : Nat) : Int)]))
          rw [e9]
      · rintro H7 ⟨sj, ej⟩
        rw [List.length_map, lp, List.take_length] at ej
        obtain ⟨pf2, fs2, f1, f2, f3, rfl⟩ := fin D2 H7 (s9.trans sj) ej
        exact ⟨s9.trans sj, pf2, fs2, _, _, _, _, f1, f2, f3, rfl⟩
  · rintro σ H2 ⟨s2, pf, fs, v5, v6, v7, v8, e2, lf, hf, rfl⟩
    have e0 : os.drop (natV os).length = [] := by rw [List.length_map, List.drop_length]
    rw [e0] at hf
    have hf2 : fs = foundN g os 0 [c] := hf
    refine ⟨_, rfl, _, rfl, _, _, rfl, rfl, _, rfl, pf, _, rfl, SqL.of e2, fun ps hps => ?_⟩
    have s3 : Same H2 (upd H2 ps (.lst (cutV (natV fs) none (some ((m : Int) + 1))))) := same_new hps
    have e3 : (upd H2 ps (.lst (cutV (natV fs) none (some ((m : Int) + 1))))) ps = some (.lst (natV (fs.take (m + 1)))) := by rw [upd_same, cut_toN, natV, natV, List.map_take]
    revert s3 e3
    generalize upd H2 ps (.lst (cutV (natV fs) none (some ((m : Int) + 1)))) = H3
    intro s3 e3
    refine ⟨ps, rfl, ⟨_, SqL.of e3⟩, for_list (K := K) (a := ps) (xs := natV (fs.take (m + 1))) (fun i σ Hn => Same H3 Hn ∧ ∃ v12, σ = [some (.int (c : Int)), some (.int (g : Int)), some (.ref b), some (.int (m : Int)), some (.ref pf), v5, v6, v7, v8, none, none, some (.int (((((fs.take (m + 1)).take i).foldl (· ||| ·) 0 : Nat) : Int))), v12]) ⟨Same.refl _, _, rfl⟩ (fun _ _ _ _ z => SqL.of (z.1 _ _ e3)) ?_ ?_⟩
    · rintro i x σ H4 hx ⟨s4, v12, rfl⟩
      rw [List.getElem?_map] at hx
      cases ei : (fs.take (m + 1))[i]? with
      | none => rw [ei] at hx; cases hx
      | some y =>
      rw [ei] at hx
      cases Option.some.inj hx
      refine ⟨_, rfl, _, rfl, _, _, rfl, rfl, s4, some (.int (y : Int)), ?_⟩
      dsimp only [List.set]
      have et : ∀ gs : List Nat, gs[i]? = some y → gs.take (i + 1) = gs.take i ++ [y] := fun gs h => by rw [List.take_add_one, h]; rfl
      rw [or_nat, et _ ei, List.foldl_append]
      rfl
    · rintro σ H4 ⟨s4, v12, rfl⟩
      rw [List.length_map, List.take_length] at *
      refine ⟨_, rfl, ?_⟩
      rw [hf2]
      exact q H4 (s2.trans (s3.trans s4))
end
end Ts
namespace Ts
open PySem PySem.Spec PyProof.Rows L2
section
variable {P : Program} {w : World} {K : PySem.W.Frag} {mg : Str → Option Value} {base : Heap}
theorem has_living {C : Addr} (D : DefAt K mg "_living_of" s__living_of) (B : Blt0 mg) (W : WalkC K mg C) (h__standings_before : Has P w K mg base 1 "_standings_before" ["after", "grown", "not_ahead", "most"] (spBefore K)) : Has P w K mg base 2 "_living_of" ["walk", "many"] (spLivingOf K C) := by
  refine D.has (fun _ _ _ _ _ _ us hl => match us, hl with | [_, _], _ => rfl) fun f fd F => F.ok sc__living_of (fun vs H Q E h => ?_) (fun cdv A outer s H vs Q E hr h => ?_)
  · obtain ⟨a, dx, fs, js, hs, rfl, _⟩ := h; rfl
  obtain ⟨a, dx, fs, js, hs, rfl, ha, WF, l6, lh, hm, q⟩ := h
  refine ⟨_, (pss_cons (ps_setLc (i := 4) (own := [("parts", 2)]) rfl sc__living_of.nd rfl rfl (sw_true rfl rfl rfl (by decide +kernel)) (pi_list (pe_fld (pv 0) rfl)) (blkOk_by (N := ["walk", "many", "parts", "part", "possible", "at", "ahead", "not_ahead", "living", "moment", "before"]) (sc := defScope s__living_of) (own := [("parts", 2)]) (by decide +kernel)) (fun _ _ _ _ _ => (pg_name (i := 2) sc__living_of.nd rfl (.inl rfl) (.inr rfl))) (fun _ _ _ _ _ => pts_nil) (fun _ _ _ _ _ => (pe_callB (cr_sumK (K := K) rfl rfl) (by rfl) B.zsum (by decide +kernel) (pa_cons (pe_lc (own := [("part", 3)]) rfl sc__living_of.nd ((pi_listK (K := K) rfl) (pv 2)) (blkOk_in (N := ["walk", "many", "parts", "part", "possible", "at", "ahead", "not_ahead", "living", "moment", "before"]) (own := [("part", 3)]) rfl (by decide +kernel)) (fun _ _ _ _ _ => (pg_name (i := 3) sc__living_of.nd rfl (.inl rfl) (.inr rfl))) (fun _ _ _ _ _ => pts_nil) (fun _ _ _ _ _ => (pe_op op_shl pe_int (pv 3)))) pa_nil))))
      (pss_cons (ps_setLc (i := 7) (own := [("at", 5)]) rfl sc__living_of.nd rfl rfl (sw_true rfl rfl rfl (by decide +kernel)) (pi_range1 (by rfl) B.zrange (pa_cons (pv 1) pa_nil)) (blkOk_by (N := ["walk", "many", "parts", "part", "possible", "at", "ahead", "not_ahead", "living", "moment", "before"]) (sc := defScope s__living_of) (own := [("at", 5)]) (by decide +kernel)) (fun _ _ _ _ _ => (pg_name (i := 5) sc__living_of.nd rfl (.inr rfl) (.inl rfl))) (fun _ _ _ _ _ => pts_nil) (fun _ _ _ _ _ => (pe_callB (cr_sumK (K := K) rfl rfl) (by rfl) B.zsum (by decide +kernel) (pa_cons (pe_lc (own := [("ahead", 6)]) rfl sc__living_of.nd ((pi_listK (K := K) rfl) (pe_ix (ixL (K := K) rfl) (pe_fldK (K := K) rfl (pv 0) rfl) (pe_un un_neg pe_int) (fun _ _ => rfl))) (blkOk_in (N := ["walk", "many", "parts", "part", "possible", "at", "ahead", "not_ahead", "living", "moment", "before"]) (own := [("ahead", 6)]) rfl (by decide +kernel)) (fun _ _ _ _ _ => (pg_name (i := 6) sc__living_of.nd rfl (.inl rfl) (.inr rfl))) (fun _ _ _ _ _ => (pts_one (pt_not (pt_truI (pe_op op_and (pe_op op_shr (pv 6) (pv 5)) pe_int))))) (fun _ _ _ _ _ => (pe_op op_shl pe_int (pv 6)))) pa_nil))))
      (pss_cons (ps_set (i := 8) sc__living_of.nd rfl (.inl rfl) (pe_lst (pa_cons (pe_ix ix_list (pv 4) (pe_ix ix_list (pe_fld (pv 0) rfl) (pe_un un_neg pe_int) (fun _ _ => rfl)) (fun _ _ => rfl)) pa_nil)))
      (pss_cons (ps_for PassesOwn.never rfl (pi_range3 (by rfl) B.zrange (pa_cons (pe_op op_sub (pe_fld (pv 0) rfl) pe_int) (pa_cons (pe_un un_neg pe_int) (pa_cons (pe_un un_neg pe_int) pa_nil)))) (pg_name (i := 9) sc__living_of.nd rfl (.inl rfl)) (pss_cons (ps_set (i := 10) sc__living_of.nd rfl (.inl rfl) (pe_h h__standings_before (hr.mono (by decide)) (pa_cons (pe_ix ix_list (pv 8) (pe_un un_neg pe_int) (fun _ _ => rfl)) (pa_cons (pe_ix ix_list (pe_fld (pv 0) rfl) (pv 9) (fun _ _ => rfl)) (pa_cons (pv 7) (pa_cons (pe_ix ix_seq (pe_fld (pv 0) rfl) (pv 9) (fun _ _ => rfl)) pa_nil))))))
      (pss_one (ps_expr (pe_bm PySem.F.plainAttrs_list PySem.F.slot_list_append PySem.F.type_list_append mt_append (pv 8) (pa_cons (pe_op op_and (pv 10) (pe_ix ix_list (pv 4) (pe_ix ix_list (pe_fld (pv 0) rfl) (pv 9) (fun _ _ => rfl)) (fun _ _ => rfl))) pa_nil))))))
      (pss_cons (ps_if (pt_cmpR op_eq (pe_ix ix_list (pv 8) (pe_un un_neg pe_int) (fun _ _ => rfl)) pe_int (nomark _)) (pss_one (ps_ret (pe_op op_rep (pe_lst (pa_cons pe_int pa_nil)) (pe_callB call_len_seq (by rfl) B.zlen (by decide +kernel) (pa_cons (pv 8) pa_nil))))) pss_nil)
      (pss_one (ps_ret (pe_revL (pv 8))))))))), ?_⟩
  obtain ⟨vp, fp, hp⟩ := WF.parts
  obtain ⟨pp, ps, rfl, hpS, hpA⟩ := hp.list
  have lps : ps.length = (subsN js.length).length := by rw [hpA.length, List.length_map]
  have l64 : 2 ^ js.length ≤ 64 := Nat.le_trans (Nat.pow_le_pow_right (by decide) l6) (by decide)
  have lsb := subs_len js.length
  -- a sum of powers
  have sumE : ∀ ms : List Nat, (ms.map fun m => ((2 ^ m : Nat) : Int)).sum = ((crewN ms : Nat) : Int) := fun ms => by
    have := natV_sum (ms.map fun m => 2 ^ m)
    rw [List.map_map] at this
    exact this
  -- possible
  refine ⟨_, rfl, a, C, dx, fs, _, rfl, ha, W.cl, W.nparts, fp, pp, rfl, ⟨_, hpS⟩, fun D1 hD1 => lc_list (K := K) (a := pp) (xs := ps) (fun j H3 => Same H H3 ∧ H3 D1 = some (.lst (natV (((subsN js.length).take j).map crewN)))) ⟨same_new hD1, upd_same⟩ (fun _ _ _ z => z.1.seq hpS) ?_ ?_⟩
  · rintro j x H3 hx ⟨s3, e3⟩
    obtain ⟨d, hd, hv⟩ := hpA.get hx
    rw [List.getElem?_map] at hd
    cases ej : (subsN js.length)[j]? with
    | none => rw [ej] at hd; cases hd
    | some wn =>
    rw [ej] at hd
    cases Option.some.inj hd
    obtain ⟨wa, rfl, hw⟩ := Dp.nats hv
    obtain ⟨wl, wb⟩ := subs_in js.length wn (List.mem_of_getElem? ej)
    refine ⟨rfl, yesIf ⟨_, rfl, wa, rfl, ⟨_, s3.seq hw⟩, fun D2 hD2 => lc_list (K := K) (a := wa) (xs := natV wn) (fun m H4 => Same H3 H4 ∧ H4 D2 = some (.lst (((wn.take m).map fun m => ((2 ^ m : Nat) : Int)).map V.int))) ⟨same_new hD2, upd_same⟩ (fun _ _ _ z => (s3.trans z.1).seq hw) ?_ ?_⟩⟩
    · rintro m y H4 hy ⟨s4, e4⟩
      rw [List.getElem?_map] at hy
      cases em : wn[m]? with
      | none => rw [em] at hy; cases hy
      | some z =>
      rw [em] at hy
      cases Option.some.inj hy
      have zb := wb z (List.mem_of_getElem? em)
      refine ⟨rfl, yesIf ⟨_, rfl, _, _, rfl, rfl, ⟨by omega, by omega, by decide⟩, _, e4, ?_, Same.app hD2 s4, ?_⟩⟩
      · rw [List.length_map, List.length_map, List.length_take]
        exact small1000 (by omega)
      · rw [upd_same, map_take_succ _ em, List.map_append]
        show some (HO.lst (_ ++ [V.int (1 * 2 ^ ((z : Int)).toNat)])) = _
        rw [one_shl]; rfl
    · rintro H4 ⟨s4, e4⟩
      rw [List.length_map, List.take_length] at e4
      refine ⟨_, _, rfl, SqL.of e4, _, s4 _ _ e3, ?_, Same.app hD1 (s3.trans s4), ?_⟩
      · rw [List.length_map, List.length_map, List.length_take]
        exact small1000 (by omega)
      · rw [upd_same, map_take_succ _ ej, natV, natV, List.map_append, sumE]; rfl
  rintro H1 ⟨s1, e1⟩
  rw [lps, List.take_length] at e1
  -- not_ahead
  refine ⟨_, rfl, _, rfl, by omega, by omega, fun D3 hD3 => lc_range (lo := 0) (n := ((js.length : Int)).toNat) (fun j H3 => Same H1 H3 ∧ H3 D3 = some (.lst (natV ((List.range j).map (notAheadN js.length))))) ⟨same_new hD3, upd_same⟩ ?_ ?_⟩
  · rintro j H3 hj ⟨s3, e3⟩
    have jl : j < js.length := by simpa using hj
    have ej : (0 : Int) + (j : Int) = ((j : Nat) : Int) := by omega
    rw [ej]
    have hl : 2 ^ js.length - 1 < (subsN js.length).length := by have := Nat.two_pow_pos js.length; omega
    obtain ⟨d, hd, hv⟩ := hpA.get (i := ps.length - 1) (v := ps[ps.length - 1]'(by omega)) (List.getElem?_eq_getElem _)
    have el : ps.length - 1 = 2 ^ js.length - 1 := by omega
    rw [List.getElem?_map, el, List.getElem?_eq_getElem hl] at hd
    cases Option.some.inj hd
    obtain ⟨wa, ew, hw⟩ := Dp.nats hv
    obtain ⟨wl, wb⟩ := subs_in js.length ((subsN js.length)[2 ^ js.length - 1]) (List.getElem_mem hl)
    have en : notAheadN js.length j = crewN (((subsN js.length)[2 ^ js.length - 1]).filter fun a => a / 2 ^ j % 2 == 0) := by
      unfold notAheadN
      rw [List.getD_eq_getElem?_getD, List.getElem?_eq_getElem hl]; rfl
    revert wl wb en hw
    generalize (subsN js.length)[2 ^ js.length - 1] = wn
    intro hw wl wb en
    have s13 := s1.trans s3
    have pz : (0 : Int) ≤ ((j : Nat) : Int) := by omega
    refine ⟨rfl, yesIf ⟨_, rfl, a, C, dx, fs, _, rfl, s13 _ _ ha, W.cl, W.nparts, fp, _, rfl, pp, ps, (-1 : Int), .ref wa, rfl, rfl, s13.seq hpS, atI_neg (by rw [List.getElem?_eq_getElem (by omega), ew]), wa, rfl, ⟨_, s13.seq hw⟩, fun D2 hD2 => ?_⟩⟩
    refine lc_list (K := K) (a := wa) (xs := natV wn) (fun m H4 => Same H3 H4 ∧ H4 D2 = some (.lst ((((wn.take m).filter fun a => a / 2 ^ j % 2 == 0).map fun m => ((2 ^ m : Nat) : Int)).map V.int))) ⟨same_new hD2, upd_same⟩ (fun _ _ _ z => (s13.trans z.1).seq hw) ?_ ?_
    · rintro m y H4 hy ⟨s4, e4⟩
      rw [List.getElem?_map] at hy
      cases em : wn[m]? with
      | none => rw [em] at hy; cases hy
      | some z =>
      rw [em] at hy
      cases Option.some.inj hy
      have zb := wb z (List.mem_of_getElem? em)
      refine ⟨rfl, _, rfl, _, rfl, _, _, rfl, rfl, pz, _, _, rfl, rfl, _, rfl, ?_⟩
      rw [shr_nat, odd_test]
      have e9 : (!decide (z / 2 ^ j % 2 = 1)) = (z / 2 ^ j % 2 == 0) := by
        have : z / 2 ^ j % 2 = 0 ∨ z / 2 ^ j % 2 = 1 := by omega
        rcases this with t | t <;> rw [t] <;> rfl
      show (if (!decide (z / 2 ^ j % 2 = 1)) = true then _ else _)
      rw [e9]
      refine ite2 (fun t => ?_) (fun t => ?_)
      · refine ⟨_, rfl, _, _, rfl, rfl, ⟨by omega, by omega, by decide⟩, _, e4, ?_, Same.app hD2 s4, ?_⟩
        · rw [List.length_map, List.length_map]
          refine small1000 (Nat.le_trans (List.length_filter_le _ _) ?_)
          rw [List.length_take]; omega
        · rw [upd_same, filter_take_succ _ em, if_pos t, List.map_append, List.map_append]
          show some (HO.lst (_ ++ [V.int (1 * 2 ^ ((z : Int)).toNat)])) = _
          rw [one_shl]; rfl
      · refine ⟨s4, ?_⟩
        rw [filter_take_succ _ em, if_neg t, List.append_nil]; exact e4
    · rintro H4 ⟨s4, e4⟩
      rw [List.length_map, List.take_length] at e4
      refine ⟨_, _, rfl, SqL.of e4, _, s4 _ _ e3, ?_, Same.app hD3 (s3.trans s4), ?_⟩
      · rw [List.length_map, List.length_map, List.length_range]
        exact small1000 (by omega)
      · rw [upd_same, List.range_succ, List.map_append, natV, natV, List.map_append, sumE, ← en]; rfl
  rintro H2 ⟨s2, e2⟩
  rw [Int.toNat_natCast] at e2
  have s12 : Same H H2 := s1.trans s2
  have n1 : (D1 : Addr) = D1 := rfl
  clear hD1 hD3 lps hpS hpA hp
  have ePoss : H2 D1 = some (.lst (natV ((subsN js.length).map crewN))) := s2 _ _ e1
  have eNa : H2 D3 = some (.lst (natV (naL js.length))) := e2
  clear e1 e2
  obtain ⟨pd, fd_, hd_⟩ := WF.doubles
  obtain ⟨pg, fg_, hg_⟩ := WF.grown
  obtain ⟨pm, fm_, hm_⟩ := WF.most
  have dAt : ∀ t, t ≤ hs.length → (natV ((List.range (hs.length + 1)).map (doubN js)))[t]? = some (V.int ((doubN js t : Nat) : Int)) := fun t ht => by
    rw [List.getElem?_map, List.getElem?_map, List.getElem?_range (by omega)]; rfl
  have dLen : (natV ((List.range (hs.length + 1)).map (doubN js))).length = hs.length + 1 := by rw [List.length_map, List.length_map, List.length_range]
  have gAt : ∀ t, t < hs.length → (natV ((List.range hs.length).map (growN js)))[t]? = some (V.int ((growN js t : Nat) : Int)) := fun t ht => by
    rw [List.getElem?_map, List.getElem?_map, List.getElem?_range ht]; rfl
  have mAt : ∀ t, t < hs.length → (natV hs)[t]? = some (V.int ((hs.getD t 0 : Nat) : Int)) := fun t ht => by
    rw [List.getElem?_map, List.getElem?_eq_getElem ht, List.getD_eq_getElem?_getD, List.getElem?_eq_getElem ht]; rfl
  have pAt : ∀ c, c < 2 ^ js.length → (natV ((subsN js.length).map crewN))[c]? = some (V.int ((possN js.length c : Nat) : Int)) := fun c hc => by
    rw [List.getElem?_map, poss_at hc]; rfl
  -- living = [possible[walk.doubles[-1]]]
  refine ⟨_, rfl, _, rfl, a, C, dx, fs, _, rfl, s12 _ _ ha, W.cl, W.ndoubles, fd_, _, rfl, pd, _, (-1 : Int), V.int ((doubN js hs.length : Nat) : Int), rfl, rfl, s12.seq hd_, atI_neg (by rw [dLen]; exact dAt _ (Nat.le_refl _)), D1, _, _, _, rfl, rfl, SqL.of ePoss, atI_nat (pAt _ (doub_lt js _)), by show 1 ≤ sizeLine; decide, fun pl hpl => ?_⟩
  have s3 : Same H2 (upd H2 pl (.lst [.int ((possN js.length (doubN js hs.length) : Nat) : Int)])) := same_new hpl
  have e3 : (upd H2 pl (.lst [V.int ((possN js.length (doubN js hs.length) : Nat) : Int)])) pl = some (.lst (natV ((List.range 1).map (livK js hs)))) := by rw [upd_same]; rfl
  have npl := s12.free hpl
  have ex0 : H pl = none := npl
  revert s3 e3
  generalize upd H2 pl (.lst [V.int ((possN js.length (doubN js hs.length) : Nat) : Int)]) = H3
  intro s3 e3
  have nD1 : D1 ≠ pl := ne_of_none ePoss hpl
  have nD3 : D3 ≠ pl := ne_of_none eNa hpl
  have b3 : But pl H2 H3 := But.of_same s3
  clear s3 hpl
  have toS : ∀ {Hn : Hp}, But pl H2 Hn → Same H Hn := fun {Hn} bt x o e => bt x o (ne_of_none e npl) (s12 x o e)
  refine ⟨_, rfl, a, C, dx, fs, _, rfl, toS b3 _ _ ha, W.cl, W.nticks, WF.ticks, _, _, rfl, rfl, _, rfl, _, rfl, _, _, _, hs.length, rfl, rgc_down (Nat.le_trans lh (by decide)), ?_⟩
  refine for_rangeC (lo := (hs.length : Int) - 1) (c := -1) (n := hs.length) (fun i σ Hn => But pl H2 Hn ∧ Hn pl = some (.lst (natV ((List.range (i + 1)).map (livK js hs)))) ∧ ∃ v9 v10, σ = [some (.ref a), some (.int (js.length : Int)), none, none, some (.ref D1), none, none, some (.ref D3), some (.ref pl), v9, v10]) ⟨b3, e3, _, _, rfl⟩ ?_ ?_
  · clear b3 e3
    rintro i σ Hn hi ⟨bn, en, v9, v10, rfl⟩
    have sn := toS bn
    have emo : ((hs.length : Int) - 1) + ((i : Nat) : Int) * (-1) = ((hs.length - (i + 1) : Nat) : Int) := by omega
    rw [emo]
    have mo : hs.length - (i + 1) < hs.length := by omega
    have ll : (natV ((List.range (i + 1)).map (livK js hs))).length = i + 1 := by rw [List.length_map, List.length_map, List.length_range]
    have lat : (natV ((List.range (i + 1)).map (livK js hs)))[(natV ((List.range (i + 1)).map (livK js hs))).length - 1]? = some (V.int ((livK js hs i : Nat) : Int)) := by
      rw [ll, List.getElem?_map, List.getElem?_map, List.getElem?_range (by omega)]; rfl
    have mb : hs.getD (hs.length - (i + 1)) 0 ≤ 1000 := by
      rw [List.getD_eq_getElem?_getD, List.getElem?_eq_getElem mo]
      exact hm _ (List.getElem_mem mo)
    have fin : ∀ H4 : Hp, Same Hn H4 → But pl H2 H4 ∧ H4 pl = some (.lst (natV ((List.range (i + 1)).map (livK js hs)))) := fun H4 s4 => ⟨bn.trans (But.of_same s4), s4 _ _ en⟩
    have mk := mAt _ mo
    have hseq := hm_.mono sn
    refine ⟨_, rfl, _, rfl, pl, _, (-1 : Int), _, rfl, rfl, SqL.of en, atI_neg lat, _, rfl, a, C, dx, fs, _, rfl, sn _ _ ha, W.cl, W.ngrown, fg_, _, rfl, pg, _, _, _, rfl, rfl, sn.seq hg_, atI_nat (gAt _ mo), _, rfl, _, rfl, a, C, dx, fs, _, rfl, sn _ _ ha, W.cl, W.nmost, fm_, _, rfl, ?_⟩
    have ixm : ∀ R : VK, R (V.int ((hs.getD (hs.length - (i + 1)) 0 : Nat) : Int)) Hn → rIx K (V.ref pm) (V.int ((hs.length - (i + 1) : Nat) : Int)) Hn R := fun R r => by
      rcases hseq with z | z
      · exact .inl ⟨pm, _, _, _, rfl, rfl, z, atI_nat mk, r⟩
      · exact .inr (.inl ⟨pm, _, _, _, rfl, rfl, z, atI_nat mk, r⟩)
    refine ixm _ ?_
    refine ⟨_, _, _, D3, naL js.length, rfl, SqL.of (bn _ _ nD3 eNa), by unfold naL; rw [List.length_map, List.length_range]; exact l6, na_lt l6, mb, fun H4 s4 => ?_⟩
    obtain ⟨b4, e4⟩ := fin H4 s4
    have sn4 := toS b4
    dsimp only [List.set]
    refine ⟨_, rfl, .inl ⟨rfl, _, SqL.of e4⟩, _, rfl, _, rfl, _, rfl, a, C, dx, fs, _, rfl, sn4 _ _ ha, W.cl, W.ndoubles, fd_, _, rfl, pd, _, _, _, rfl, rfl, sn4.seq hd_, atI_nat (dAt _ (by omega)), D1, _, _, _, rfl, rfl, SqL.of (b4 _ _ nD1 ePoss), atI_nat (pAt _ (doub_lt js _)), _, _, rfl, rfl, pl, _, _, rfl, rfl, e4, by rw [ll]; exact small1000 (by omega), ?_⟩
    refine ⟨b4.trans But.set, ?_, _, _, rfl⟩
    rw [upd_same, List.range_succ (n := i + 1), List.map_append, natV, natV, List.map_append]
    dsimp only
    rw [and_nat]
    rfl
  · rintro σ Hn ⟨bn, en, v9, v10, rfl⟩
    have sn := toS bn
    have ll : (natV ((List.range (hs.length + 1)).map (livK js hs))).length = hs.length + 1 := by rw [List.length_map, List.length_map, List.length_range]
    have lat : (natV ((List.range (hs.length + 1)).map (livK js hs)))[(natV ((List.range (hs.length + 1)).map (livK js hs))).length - 1]? = some (V.int ((livK js hs hs.length : Nat) : Int)) := by
      rw [ll, List.getElem?_map, List.getElem?_map, List.getElem?_range (by omega)]; rfl
    refine ⟨_, rfl, _, rfl, pl, _, (-1 : Int), _, rfl, rfl, SqL.of en, atI_neg lat, rfl, _, rfl, ?_⟩
    unfold livL at q
    by_cases c0 : livK js hs hs.length = 0
    · rw [if_pos c0] at q
      rw [c0]
      refine iteT ⟨by show 1 ≤ sizeLine; decide, fun l hl => ?_⟩
      have s5 : Same Hn (upd Hn l (.lst [.int 0])) := same_new hl
      have e5 : (upd Hn l (.lst [V.int 0])) l = some (.lst [V.int 0]) := upd_same
      have en5 := s5 _ _ en
      revert s5 e5 en5
      generalize upd Hn l (.lst [V.int 0]) = H5
      intro s5 e5 en5
      refine ⟨_, rfl, pl, _, rfl, .inl (SqL.of en5), l, _, _, rfl, rfl, e5, by omega, by rw [ll]; omega, ?_, fun p hp => ?_⟩
      · rw [ll]; exact Nat.le_of_lt (small1000 (by show 1 * (((hs.length + 1 : Nat) : Int)).toNat ≤ 1000; rw [Int.toNat_natCast]; omega))
      · refine q p _ ((sn.trans s5).free hp) (sn.trans (s5.trans (same_new hp))) ?_
        rw [upd_same, ll, Int.toNat_natCast, List.flatten_replicate_singleton, natV, List.map_replicate]; rfl
    · rw [if_neg c0] at q
      have d0 : decide (V.int ((livK js hs hs.length : Nat) : Int) = V.int 0) = false := decide_eq_false fun z => c0 (by have := V.int.inj z; omega)
      rw [d0]
      refine iteF ⟨_, rfl, pl, _, rfl, SqL.of en, fun p hp => ?_⟩
      refine q p _ (sn.free hp) (sn.trans (same_new hp)) ?_
      rw [upd_same, ← range_rev, natV, natV, List.map_reverse]
end
end Ts
namespace Ts
open PySem PySem.Spec PyProof.Rows L2
section
variable {P : Program} {w : World} {K : PySem.W.Frag} {mg : Str → Option Value} {base : Heap}
theorem ok_initW {C f : Addr} {fd : FuncData} (F : Fun K "__init__" "Walk.__init__" s_Walk___init__ f fd) (B : Blt0 mg) (W : WalkC K mg C) (h_sizes_of_crews : Has P w K mg base 1 "sizes_of_crews" ["many"] spSizesOf) (h_parts_of_crews : Has P w K mg base 1 "parts_of_crews" ["many"] (spPartsOf K))
    (h_turns_of : Has P w K mg base 2 "turns_of" ["share", "moment"] (spOfT K)) (h_crew_of : Has P w K mg base 1 "crew_of" ["members"] (spCrewOf K)) (h__grown_between : Has P w K mg base 2 "_grown_between" ["before", "after"] (spGrown K))
    (h__living_of : Has P w K mg base 2 "_living_of" ["walk", "many"] (spLivingOf K C)) : FnOk P w K mg base CX0 3 f fd ["self", "shares", "hands"] (spInitW K C) := by
  refine F.ok sc_Walk___init__ (fun vs H Q E h => ?_) (fun cdv A outer s H vs Q E hr h => ?_)
  · obtain ⟨a, dx, ps, ph, xs, js, hs, rfl, _⟩ := h; rfl
  obtain ⟨a, dx, ps, ph, xs, js, hs, rfl, ha, hS, hA, hH, G, l6, lh, hm, q⟩ := h
  refine ⟨_, (pss_cons (ps_fld (pv 0) (pe_callB call_len_seq (by rfl) B.zlen (by decide +kernel) (pa_cons (pv 2) pa_nil)) rfl)
      (pss_cons (ps_fld (pv 0) (pv 2) rfl)
      (pss_cons (ps_fld (pv 0) (pe_h h_sizes_of_crews (hr.mono (by decide)) (pa_cons (pe_callB call_len_seq (by rfl) B.zlen (by decide +kernel) (pa_cons (pv 1) pa_nil)) pa_nil)) rfl)
      (pss_cons (ps_fld (pv 0) (pe_h h_parts_of_crews (hr.mono (by decide)) (pa_cons (pe_callB call_len_seq (by rfl) B.zlen (by decide +kernel) (pa_cons (pv 1) pa_nil)) pa_nil)) rfl)
      (pss_cons (ps_setLc (i := 5) (own := [("moment", 3)]) rfl sc_Walk___init__.nd rfl rfl (sw_true rfl rfl rfl (by decide +kernel)) (pi_range1 (by rfl) B.zrange (pa_cons (pe_op op_add (pe_callB call_len_seq (by rfl) B.zlen (by decide +kernel) (pa_cons (pv 2) pa_nil)) pe_int) pa_nil)) (blkOk_by (N := ["self", "shares", "hands", "moment", "share", "numbers", "row", "low", "_", "at", "high", "after"]) (sc := defScope s_Walk___init__) (own := [("moment", 3)]) (by decide +kernel)) (fun _ _ _ _ _ => (pg_name (i := 3) sc_Walk___init__.nd rfl (.inr rfl) (.inl rfl))) (fun _ _ _ _ _ => pts_nil) (fun _ _ _ _ _ => (pe_lc (own := [("share", 4)]) rfl sc_Walk___init__.nd ((pi_tupK (K := K) rfl) (pv 1)) (blkOk_in (N := ["self", "shares", "hands", "moment", "share", "numbers", "row", "low", "_", "at", "high", "after"]) (own := [("share", 4)]) rfl (by decide +kernel)) (fun _ _ _ _ _ => (pg_name (i := 4) sc_Walk___init__.nd rfl (.inl rfl) (.inr rfl))) (fun _ _ _ _ _ => pts_nil) (fun _ _ _ _ _ => (pe_h h_turns_of (hr.mono (by decide)) (pa_cons (pv 4) (pa_cons (pv 3) pa_nil)))))))
      (pss_cons (ps_fld (pv 0) (pe_lc (own := [("row", 6)]) rfl sc_Walk___init__.nd (pi_list (pv 5)) (blkOk_by (N := ["self", "shares", "hands", "moment", "share", "numbers", "row", "low", "_", "at", "high", "after"]) (sc := defScope s_Walk___init__) (own := [("row", 6)]) (by decide +kernel)) (fun _ _ _ _ _ => (pg_name (i := 6) sc_Walk___init__.nd rfl (.inl rfl) (.inr rfl))) (fun _ _ _ _ _ => pts_nil) (fun _ _ _ _ _ => (pe_lc (own := [("low", 7), ("_", 8)]) rfl sc_Walk___init__.nd ((pi_listK (K := K) rfl) (pv 6)) (blkOk_in (N := ["self", "shares", "hands", "moment", "share", "numbers", "row", "low", "_", "at", "high", "after"]) (own := [("low", 7), ("_", 8)]) rfl (by decide +kernel)) (fun _ _ _ _ _ => (pg_tupK (K := K) (n := 2) rfl rfl (pgs_cons (pg_name (i := 7) sc_Walk___init__.nd rfl (.inl rfl) (.inr rfl)) (pgs_cons (pg_name (i := 8) sc_Walk___init__.nd rfl (.inl rfl) (.inr rfl)) pgs_nil)))) (fun _ _ _ _ _ => pts_nil) (fun _ _ _ _ _ => (pv 7))))) rfl)
      (pss_cons (ps_fld (pv 0) (pe_lc (own := [("row", 6)]) rfl sc_Walk___init__.nd (pi_list (pv 5)) (blkOk_by (N := ["self", "shares", "hands", "moment", "share", "numbers", "row", "low", "_", "at", "high", "after"]) (sc := defScope s_Walk___init__) (own := [("row", 6)]) (by decide +kernel)) (fun _ _ _ _ _ => (pg_name (i := 6) sc_Walk___init__.nd rfl (.inl rfl) (.inr rfl))) (fun _ _ _ _ _ => pts_nil) (fun _ _ _ _ _ => (pe_h h_crew_of (hr.mono (by decide)) (pa_cons (pe_lc (own := [("at", 9), ("low", 7), ("high", 10)]) rfl sc_Walk___init__.nd (pi_enumK (K := K) rfl (by rfl) B.zenumerate (pa_cons (pv 6) pa_nil)) (blkOk_in (N := ["self", "shares", "hands", "moment", "share", "numbers", "row", "low", "_", "at", "high", "after"]) (own := [("at", 9), ("low", 7), ("high", 10)]) rfl (by decide +kernel)) (fun _ _ _ _ _ => (pg_tupK (K := K) (n := 2) rfl rfl (pgs_cons (pg_name (i := 9) sc_Walk___init__.nd rfl (.inl rfl) (.inr rfl)) (pgs_cons (pg_tupK (K := K) (n := 2) rfl rfl (pgs_cons (pg_name (i := 7) sc_Walk___init__.nd rfl (.inl rfl) (.inr rfl)) (pgs_cons (pg_name (i := 10) sc_Walk___init__.nd rfl (.inl rfl) (.inr rfl)) pgs_nil))) pgs_nil)))) (fun _ _ _ _ _ => (pts_one (pt_cmpR op_lt (pv 7) (pv 10) (nomark _)))) (fun _ _ _ _ _ => (pv 9))) pa_nil)))) rfl)
      (pss_cons (ps_fld (pv 0) (pe_lc (own := [("row", 6), ("after", 11)]) rfl sc_Walk___init__.nd (pi_zip (by rfl) B.zzip (pa_cons (pe_fld (pv 0) rfl) (pa_cons (pe_slice sl_list (pe_fld (pv 0) rfl) (po_some pe_int) po_none) pa_nil))) (blkOk_by (N := ["self", "shares", "hands", "moment", "share", "numbers", "row", "low", "_", "at", "high", "after"]) (sc := defScope s_Walk___init__) (own := [("row", 6), ("after", 11)]) (by decide +kernel)) (fun _ _ _ _ _ => (pg_tupK (K := K) (n := 2) rfl rfl (pgs_cons (pg_name (i := 6) sc_Walk___init__.nd rfl (.inl rfl) (.inr rfl)) (pgs_cons (pg_name (i := 11) sc_Walk___init__.nd rfl (.inl rfl) (.inr rfl)) pgs_nil)))) (fun _ _ _ _ _ => pts_nil) (fun _ _ _ _ _ => (pe_h h__grown_between (hr.mono (by decide)) (pa_cons (pv 6) (pa_cons (pv 11) pa_nil))))) rfl)
      (pss_one (ps_fld (pv 0) (pe_h h__living_of (hr.mono (by decide)) (pa_cons (pv 0) (pa_cons (pe_callB call_len_seq (by rfl) B.zlen (by decide +kernel) (pa_cons (pv 1) pa_nil)) pa_nil))) rfl)))))))))), ?_⟩
  have lx : xs.length = js.length := by rw [hA.length]; exact List.length_map _
  have ins : ∀ (fs : List (Str × V)), NoSeq (.ins C dx fs) := fun _ => NoSeq.ins
  have bb : But a H H := But.refl
  have bb : But a H H := But.refl
  have bb : But a H H := But.refl
  have bb : But a H H := But.refl
  have bb : But a H H := But.refl
  -- ticks
  refine ⟨_, rfl, ph, _, rfl, hH, _, rfl, a, C, dx, _, rfl, ha, W.cl, W.nticks, by show 0 < 1000; decide, ?_⟩
  rw [show ((natV hs).length : Int) = (hs.length : Int) by rw [List.length_map]]
  have f1 := putF_len "ticks" (.int (hs.length : Int)) ([] : List (Str × V))
  rw [List.length_nil] at f1
  have lticks : (putF "ticks" (.int (hs.length : Int)) ([] : List (Str × V))).lookup ("ticks" : Str) = some (.int (hs.length : Int)) := by rw [lookup_putF, if_pos rfl]
  have lcrews : (putF "ticks" (.int (hs.length : Int)) ([] : List (Str × V))).lookup ("crews" : Str) = none := by rw [lookup_putF, if_neg (by decide +kernel)]; rfl
  have lis_alive : (putF "ticks" (.int (hs.length : Int)) ([] : List (Str × V))).lookup ("is_alive" : Str) = none := by rw [lookup_putF, if_neg (by decide +kernel)]; rfl
  have lchoices : (putF "ticks" (.int (hs.length : Int)) ([] : List (Str × V))).lookup ("choices" : Str) = none := by rw [lookup_putF, if_neg (by decide +kernel)]; rfl
  have lahead_behind : (putF "ticks" (.int (hs.length : Int)) ([] : List (Str × V))).lookup ("ahead_behind" : Str) = none := by rw [lookup_putF, if_neg (by decide +kernel)]; rfl
  have lahead_before : (putF "ticks" (.int (hs.length : Int)) ([] : List (Str × V))).lookup ("ahead_before" : Str) = none := by rw [lookup_putF, if_neg (by decide +kernel)]; rfl
  have lnumbers_of : (putF "ticks" (.int (hs.length : Int)) ([] : List (Str × V))).lookup ("numbers_of" : Str) = none := by rw [lookup_putF, if_neg (by decide +kernel)]; rfl
  have b1 : But a H (upd H a (.ins C dx (putF "ticks" (.int (hs.length : Int)) ([] : List (Str × V))))) := But.set
  have e1 : (upd H a (.ins C dx (putF "ticks" (.int (hs.length : Int)) ([] : List (Str × V))))) a = some (.ins C dx (putF "ticks" (.int (hs.length : Int)) ([] : List (Str × V)))) := upd_same
  generalize upd H a (.ins C dx (putF "ticks" (.int (hs.length : Int)) ([] : List (Str × V)))) = H1 at b1 e1
  generalize putF "ticks" (.int (hs.length : Int)) ([] : List (Str × V)) = F1 at f1 e1 lticks lcrews lis_alive lchoices lahead_behind lahead_before lnumbers_of
  replace hS := sqt_but (ha) NoSeq.ins b1 hS
  replace hA := dpa_but (ha) NoSeq.ins b1 hA
  replace hH := seq_but (ha) NoSeq.ins b1 hH
  replace bb := bb.trans b1
  -- most
  refine ⟨_, rfl, _, rfl, a, C, dx, _, rfl, e1, W.cl, W.nmost, by omega, ?_⟩
  have f2 := putF_len "most" (.ref ph) F1
  have lmost : (putF "most" (.ref ph) F1).lookup ("most" : Str) = some (.ref ph) := by rw [lookup_putF, if_pos rfl]
  have lticks : (putF "most" (.ref ph) F1).lookup ("ticks" : Str) = some (.int (hs.length : Int)) := by rw [lookup_putF, if_neg (by decide +kernel)]; exact lticks
  have lcrews : (putF "most" (.ref ph) F1).lookup ("crews" : Str) = none := by rw [lookup_putF, if_neg (by decide +kernel)]; exact lcrews
  have lis_alive : (putF "most" (.ref ph) F1).lookup ("is_alive" : Str) = none := by rw [lookup_putF, if_neg (by decide +kernel)]; exact lis_alive
  have lchoices : (putF "most" (.ref ph) F1).lookup ("choices" : Str) = none := by rw [lookup_putF, if_neg (by decide +kernel)]; exact lchoices
  have lahead_behind : (putF "most" (.ref ph) F1).lookup ("ahead_behind" : Str) = none := by rw [lookup_putF, if_neg (by decide +kernel)]; exact lahead_behind
  have lahead_before : (putF "most" (.ref ph) F1).lookup ("ahead_before" : Str) = none := by rw [lookup_putF, if_neg (by decide +kernel)]; exact lahead_before
  have lnumbers_of : (putF "most" (.ref ph) F1).lookup ("numbers_of" : Str) = none := by rw [lookup_putF, if_neg (by decide +kernel)]; exact lnumbers_of
  have b2 : But a H1 (upd H1 a (.ins C dx (putF "most" (.ref ph) F1))) := But.set
  have e2 : (upd H1 a (.ins C dx (putF "most" (.ref ph) F1))) a = some (.ins C dx (putF "most" (.ref ph) F1)) := upd_same
  generalize upd H1 a (.ins C dx (putF "most" (.ref ph) F1)) = H2 at b2 e2
  generalize putF "most" (.ref ph) F1 = F2 at f2 e2 lmost lticks lcrews lis_alive lchoices lahead_behind lahead_before lnumbers_of
  replace hS := sqt_but (e1) NoSeq.ins b2 hS
  replace hA := dpa_but (e1) NoSeq.ins b2 hA
  replace hH := seq_but (e1) NoSeq.ins b2 hH
  replace bb := bb.trans b2
  -- sizes
  refine ⟨_, rfl, ps, _, rfl, .inr hS, xs.length, rfl, by omega, fun pz G3 hpz t3 z3 => ?_⟩
  replace hS := sameT t3 hS
  replace hA := hA.mono t3
  replace hH := hH.mono t3
  replace bb := bb.trans (But.of_same t3)
  rw [lx] at z3
  have hZ : SqL K G3 pz (natV (sizesN js.length)) := SqL.of z3
  refine ⟨_, rfl, a, C, dx, _, rfl, t3 _ _ e2, W.cl, W.nsizes, by omega, ?_⟩
  have f3 := putF_len "sizes" (.ref pz) F2
  have lsizes : (putF "sizes" (.ref pz) F2).lookup ("sizes" : Str) = some (.ref pz) := by rw [lookup_putF, if_pos rfl]
  have lticks : (putF "sizes" (.ref pz) F2).lookup ("ticks" : Str) = some (.int (hs.length : Int)) := by rw [lookup_putF, if_neg (by decide +kernel)]; exact lticks
  have lmost : (putF "sizes" (.ref pz) F2).lookup ("most" : Str) = some (.ref ph) := by rw [lookup_putF, if_neg (by decide +kernel)]; exact lmost
  have lcrews : (putF "sizes" (.ref pz) F2).lookup ("crews" : Str) = none := by rw [lookup_putF, if_neg (by decide +kernel)]; exact lcrews
  have lis_alive : (putF "sizes" (.ref pz) F2).lookup ("is_alive" : Str) = none := by rw [lookup_putF, if_neg (by decide +kernel)]; exact lis_alive
  have lchoices : (putF "sizes" (.ref pz) F2).lookup ("choices" : Str) = none := by rw [lookup_putF, if_neg (by decide +kernel)]; exact lchoices
  have lahead_behind : (putF "sizes" (.ref pz) F2).lookup ("ahead_behind" : Str) = none := by rw [lookup_putF, if_neg (by decide +kernel)]; exact lahead_behind
  have lahead_before : (putF "sizes" (.ref pz) F2).lookup ("ahead_before" : Str) = none := by rw [lookup_putF, if_neg (by decide +kernel)]; exact lahead_before
  have lnumbers_of : (putF "sizes" (.ref pz) F2).lookup ("numbers_of" : Str) = none := by rw [lookup_putF, if_neg (by decide +kernel)]; exact lnumbers_of
  have b3 : But a G3 (upd G3 a (.ins C dx (putF "sizes" (.ref pz) F2))) := But.set
  have e3 : (upd G3 a (.ins C dx (putF "sizes" (.ref pz) F2))) a = some (.ins C dx (putF "sizes" (.ref pz) F2)) := upd_same
  generalize upd G3 a (.ins C dx (putF "sizes" (.ref pz) F2)) = H3 at b3 e3
  generalize putF "sizes" (.ref pz) F2 = F3 at f3 e3 lsizes lticks lmost lcrews lis_alive lchoices lahead_behind lahead_before lnumbers_of
  replace hS := sqt_but (t3 _ _ e2) NoSeq.ins b3 hS
  replace hA := dpa_but (t3 _ _ e2) NoSeq.ins b3 hA
  replace hH := seq_but (t3 _ _ e2) NoSeq.ins b3 hH
  replace hZ := sql_but (t3 _ _ e2) NoSeq.ins b3 hZ
  replace bb := bb.trans b3
  -- parts
  refine ⟨_, rfl, ps, _, rfl, .inr hS, xs.length, rfl, by omega, fun pq G4 hpq t4 z4 => ?_⟩
  replace hS := sameT t4 hS
  replace hA := hA.mono t4
  replace hH := hH.mono t4
  replace hZ := t4.seq hZ
  replace bb := bb.trans (But.of_same t4)
  rw [lx] at z4
  refine ⟨_, rfl, a, C, dx, _, rfl, t4 _ _ e3, W.cl, W.nparts, by omega, ?_⟩
  have f4 := putF_len "parts" (.ref pq) F3
  have lparts : (putF "parts" (.ref pq) F3).lookup ("parts" : Str) = some (.ref pq) := by rw [lookup_putF, if_pos rfl]
  have lticks : (putF "parts" (.ref pq) F3).lookup ("ticks" : Str) = some (.int (hs.length : Int)) := by rw [lookup_putF, if_neg (by decide +kernel)]; exact lticks
  have lmost : (putF "parts" (.ref pq) F3).lookup ("most" : Str) = some (.ref ph) := by rw [lookup_putF, if_neg (by decide +kernel)]; exact lmost
  have lsizes : (putF "parts" (.ref pq) F3).lookup ("sizes" : Str) = some (.ref pz) := by rw [lookup_putF, if_neg (by decide +kernel)]; exact lsizes
  have lcrews : (putF "parts" (.ref pq) F3).lookup ("crews" : Str) = none := by rw [lookup_putF, if_neg (by decide +kernel)]; exact lcrews
  have lis_alive : (putF "parts" (.ref pq) F3).lookup ("is_alive" : Str) = none := by rw [lookup_putF, if_neg (by decide +kernel)]; exact lis_alive
  have lchoices : (putF "parts" (.ref pq) F3).lookup ("choices" : Str) = none := by rw [lookup_putF, if_neg (by decide +kernel)]; exact lchoices
  have lahead_behind : (putF "parts" (.ref pq) F3).lookup ("ahead_behind" : Str) = none := by rw [lookup_putF, if_neg (by decide +kernel)]; exact lahead_behind
  have lahead_before : (putF "parts" (.ref pq) F3).lookup ("ahead_before" : Str) = none := by rw [lookup_putF, if_neg (by decide +kernel)]; exact lahead_before
  have lnumbers_of : (putF "parts" (.ref pq) F3).lookup ("numbers_of" : Str) = none := by rw [lookup_putF, if_neg (by decide +kernel)]; exact lnumbers_of
  have b4 : But a G4 (upd G4 a (.ins C dx (putF "parts" (.ref pq) F3))) := But.set
  have e4 : (upd G4 a (.ins C dx (putF "parts" (.ref pq) F3))) a = some (.ins C dx (putF "parts" (.ref pq) F3)) := upd_same
  generalize upd G4 a (.ins C dx (putF "parts" (.ref pq) F3)) = H4 at b4 e4
  generalize putF "parts" (.ref pq) F3 = F4 at f4 e4 lparts lticks lmost lsizes lcrews lis_alive lchoices lahead_behind lahead_before lnumbers_of
  replace hS := sqt_but (t4 _ _ e3) NoSeq.ins b4 hS
  replace hA := dpa_but (t4 _ _ e3) NoSeq.ins b4 hA
  replace hH := seq_but (t4 _ _ e3) NoSeq.ins b4 hH
  replace hZ := sql_but (t4 _ _ e3) NoSeq.ins b4 hZ
  replace z4 := dp_but (t4 _ _ e3) NoSeq.ins b4 z4
  replace bb := bb.trans b4
  -- numbers
  refine ⟨_, rfl, ph, _, rfl, hH, _, _, rfl, rfl, _, rfl, by rw [List.length_map]; omega, by rw [List.length_map]; omega, fun D1 hD1 => ?_⟩
  have etn : ((((natV hs).length : Nat) : Int) + 1).toNat = hs.length + 1 := by rw [List.length_map]; omega
  rw [etn]
  refine lc_range (lo := 0) (n := hs.length + 1) (fun i Hm => Same H4 Hm ∧ ∃ us, Hm D1 = some (.lst us) ∧ DpAll K (hid D1 Hm) us (numsD js i)) ⟨same_new hD1, [], upd_same, .nil⟩ ?_ ?_
  · rintro i Hm hi ⟨sm, us, em, um⟩
    have ei : (0 : Int) + (i : Int) = ((i : Nat) : Int) := by omega
    rw [ei]
    have hS5 := sameT sm hS
    refine ⟨rfl, yesIf ⟨_, rfl, ps, rfl, ⟨_, hS5⟩, fun D2 hD2 => ?_⟩⟩
    refine lc_tup (K := K) (a := ps) (xs := xs) (fun k Hk => Same Hm Hk ∧ ∃ ws, Hk D2 = some (.lst ws) ∧ DpAll K (hid D2 Hk) ws ((js.take k).map (lohiD ((i : Nat) : Int)))) ⟨same_new hD2, [], upd_same, .nil⟩ (fun _ _ _ z => sameT z.1 hS5) ?_ ?_
    · rintro k x Hk hx ⟨sk, ws, ek, uk⟩
      obtain ⟨d, hd, hv⟩ := hA.get hx
      unfold sharesD at hd
      rw [List.getElem?_map] at hd
      cases ej : js[k]? with
      | none => rw [ej] at hd; cases hd
      | some j =>
      rw [ej] at hd
      cases Option.some.inj hd
      have gp := G.part j (List.mem_of_getElem? ej)
      have lu : ws.length < sizeLine := by
        have h := uk.length
        rw [List.length_map, List.length_take] at h
        exact small1000 (by omega)
      refine ⟨rfl, yesIf ⟨_, rfl, _, rfl, x, j.2.1, j.2.2, _, rfl, (hv.mono sm).mono sk, gp, fun r H5 hr5 s5 e5 => ?_⟩⟩
      have nr : r ≠ D2 := (ne_of_none ek hr5).symm
      refine ⟨ws, s5 _ _ ek, lu, Same.app hD2 (sk.trans s5), _, upd_same, ?_⟩
      rw [map_take_succ _ ej]
      exact ((uk.mono (hid_same s5)).mono hid_put).snoc (.tup (SqT.of (by rw [hid_ne nr, upd_ne nr]; exact e5)) (.cons (.int _) (.cons (.int _) .nil)))
    · rintro Hk ⟨sk, ws, ek, uk⟩
      rw [lx, List.take_length] at uk
      have n12 : D2 ≠ D1 := (ne_of_none em hD2).symm
      have lu : us.length < sizeLine := by
        have h := um.length
        rw [List.length_map, List.length_range] at h
        exact small1000 (by omega)
      refine ⟨us, sk _ _ em, lu, Same.app hD1 (sm.trans sk), _, upd_same, ?_⟩
      rw [numsD, List.range_succ, List.map_append]
      refine ((um.mono (hid_same sk)).mono hid_put).snoc ?_
      refine .lst (SqL.of (by rw [hid_ne n12, upd_ne n12]; exact ek)) ?_
      exact (DpAll.imp (uk.mono hid_sub) fun d hd => dp_hideT (sk _ _ em) (by
        obtain ⟨j, _, rfl⟩ := List.mem_map.mp hd
        exact tup_pair _ _)).mono hid_put
  rintro H5 ⟨t5, us, em, um⟩
  replace bb := bb.trans (But.of_same t5)
  replace hS := sameT t5 hS
  replace hA := hA.mono t5
  replace hH := hH.mono t5
  replace hZ := t5.seq hZ
  replace z4 := z4.mono t5
  have hN : Dp K H5 (.ref D1) (.list (numsD js (hs.length + 1))) := .lst (SqL.of em) (um.mono hid_sub)
  have e5 := t5 _ _ e4
  clear hD1 em um us t5 etn
  obtain ⟨pn_, rs, en_, hNS, hNA⟩ := hN.list
  cases en_
  have lr : rs.length = hs.length + 1 := by rw [hNA.length, List.length_map, List.length_range]
  have rowAt : ∀ {Hm : Hp}, Same H5 Hm → ∀ (i : Nat) (x : V), rs[i]? = some x → i < hs.length + 1 ∧ ∃ (ra : Addr) (zs : List V), x = .ref ra ∧ SqL K Hm ra zs ∧ DpAll K Hm zs (js.map (lohiD ((i : Nat) : Int))) := fun {Hm} sm i x hx => by
    obtain ⟨d, hd, hv⟩ := hNA.get hx
    have il : i < hs.length + 1 := by rw [← lr]; exact (List.getElem?_eq_some_iff.mp hx).1
    rw [List.getElem?_map, List.getElem?_range il] at hd
    cases Option.some.inj hd
    obtain ⟨ra, zs, e, h1, h2⟩ := hv.list
    exact ⟨il, ra, zs, e, sm.seq h1, h2.mono sm⟩
  -- lows
  refine ⟨_, rfl, D1, rfl, ⟨_, hNS⟩, fun D3 hD3 => ?_⟩
  refine lc_list (K := K) (a := D1) (xs := rs) (fun i Hm => Same H5 Hm ∧ ∃ us, Hm D3 = some (.lst us) ∧ DpAll K (hid D3 Hm) us (rowsD js i)) ⟨same_new hD3, [], upd_same, .nil⟩ (fun _ _ _ z => z.1.seq hNS) ?_ ?_
  · rintro i x Hm hx ⟨sm, us, em, um⟩
    obtain ⟨il, ra, zs, rfl, hr1, hr2⟩ := rowAt sm i x hx
    have lz : zs.length = js.length := by rw [hr2.length, List.length_map]
    have lu : us.length < sizeLine := by
      have h := um.length
      rw [List.length_map, List.length_range] at h
      exact small1000 (by omega)
    refine ⟨rfl, yesIf ⟨_, rfl, ra, rfl, ⟨_, hr1⟩, fun D4 hD4 => ?_⟩⟩
    refine lc_list (K := K) (a := ra) (xs := zs) (fun k Hk => Same Hm Hk ∧ Hk D4 = some (.lst (((lowsR js i).take k).map V.int))) ⟨same_new hD4, upd_same⟩ (fun _ _ _ z => z.1.seq hr1) ?_ ?_
    · rintro k y Hk hy ⟨sk, ek⟩
      obtain ⟨d, hd, hv⟩ := hr2.get hy
      rw [List.getElem?_map] at hd
      cases ej : js[k]? with
      | none => rw [ej] at hd; cases hd
      | some j =>
      rw [ej] at hd
      cases Option.some.inj hd
      obtain ⟨ta, ws, rfl, ht1, ht2⟩ := hv.tuple
      obtain ⟨z1, z2, rfl, hz1, hz2⟩ := ht2.two
      cases hz1.int_eq
      cases hz2.int_eq
      refine ⟨ta, _, rfl, sameT sk ht1, rfl, _, _, rfl, _, _, rfl, rfl, rfl, yesIf ⟨_, rfl, _, ek, ?_, Same.app hD4 sk, ?_⟩⟩
      · rw [List.length_map, List.length_take]; unfold lowsR; rw [List.length_map]
        exact small1000 (by omega)
      · have ek2 : (lowsR js i)[k]? = some (lowI j.2.1 j.2.2 ((i : Nat) : Int)) := by unfold lowsR; rw [List.getElem?_map, ej]; rfl
        rw [upd_same, map_take_succ _ ek2]
    · rintro Hk ⟨sk, ek⟩
      have el : (lowsR js i).take zs.length = lowsR js i := List.take_of_length_le (by unfold lowsR; rw [List.length_map, lz]; exact Nat.le_refl _)
      rw [el] at ek
      have n12 : D4 ≠ D3 := (ne_of_none em hD4).symm
      refine ⟨us, sk _ _ em, lu, Same.app hD3 (sm.trans sk), _, upd_same, ?_⟩
      rw [rowsD, List.range_succ, List.map_append]
      refine ((um.mono (hid_same sk)).mono hid_put).snoc ?_
      exact .lst (SqL.of (by rw [hid_ne n12, upd_ne n12]; exact ek)) (DpAll.ints _)
  rintro H6 ⟨t6, us, em, um⟩
  rw [lr] at um
  replace bb := bb.trans (But.of_same t6)
  replace hS := sameT t6 hS
  replace hA := hA.mono t6
  replace hH := hH.mono t6
  replace hZ := t6.seq hZ
  replace z4 := z4.mono t6
  replace hNS := t6.seq hNS
  replace hNA := hNA.mono t6
  have hL : Dp K H6 (.ref D3) (.list (rowsD js (hs.length + 1))) := .lst (SqL.of em) (um.mono hid_sub)
  have e6 := t6 _ _ e5
  clear hD3 em um us t6 rowAt
  refine ⟨_, rfl, a, C, dx, _, rfl, e6, W.cl, W.nlows, by omega, ?_⟩
  have f5 := putF_len "lows" (.ref D3) F4
  have llows : (putF "lows" (.ref D3) F4).lookup ("lows" : Str) = some (.ref D3) := by rw [lookup_putF, if_pos rfl]
  have lticks : (putF "lows" (.ref D3) F4).lookup ("ticks" : Str) = some (.int (hs.length : Int)) := by rw [lookup_putF, if_neg (by decide +kernel)]; exact lticks
  have lmost : (putF "lows" (.ref D3) F4).lookup ("most" : Str) = some (.ref ph) := by rw [lookup_putF, if_neg (by decide +kernel)]; exact lmost
  have lsizes : (putF "lows" (.ref D3) F4).lookup ("sizes" : Str) = some (.ref pz) := by rw [lookup_putF, if_neg (by decide +kernel)]; exact lsizes
  have lparts : (putF "lows" (.ref D3) F4).lookup ("parts" : Str) = some (.ref pq) := by rw [lookup_putF, if_neg (by decide +kernel)]; exact lparts
  have lcrews : (putF "lows" (.ref D3) F4).lookup ("crews" : Str) = none := by rw [lookup_putF, if_neg (by decide +kernel)]; exact lcrews
  have lis_alive : (putF "lows" (.ref D3) F4).lookup ("is_alive" : Str) = none := by rw [lookup_putF, if_neg (by decide +kernel)]; exact lis_alive
  have lchoices : (putF "lows" (.ref D3) F4).lookup ("choices" : Str) = none := by rw [lookup_putF, if_neg (by decide +kernel)]; exact lchoices
  have lahead_behind : (putF "lows" (.ref D3) F4).lookup ("ahead_behind" : Str) = none := by rw [lookup_putF, if_neg (by decide +kernel)]; exact lahead_behind
  have lahead_before : (putF "lows" (.ref D3) F4).lookup ("ahead_before" : Str) = none := by rw [lookup_putF, if_neg (by decide +kernel)]; exact lahead_before
  have lnumbers_of : (putF "lows" (.ref D3) F4).lookup ("numbers_of" : Str) = none := by rw [lookup_putF, if_neg (by decide +kernel)]; exact lnumbers_of
  have b5 : But a H6 (upd H6 a (.ins C dx (putF "lows" (.ref D3) F4))) := But.set
  have e5 : (upd H6 a (.ins C dx (putF "lows" (.ref D3) F4))) a = some (.ins C dx (putF "lows" (.ref D3) F4)) := upd_same
  generalize upd H6 a (.ins C dx (putF "lows" (.ref D3) F4)) = H5 at b5 e5
  generalize putF "lows" (.ref D3) F4 = F5 at f5 e5 llows lticks lmost lsizes lparts lcrews lis_alive lchoices lahead_behind lahead_before lnumbers_of
  replace hS := sqt_but (e6) NoSeq.ins b5 hS
  replace hA := dpa_but (e6) NoSeq.ins b5 hA
  replace hH := seq_but (e6) NoSeq.ins b5 hH
  replace hZ := sql_but (e6) NoSeq.ins b5 hZ
  replace z4 := dp_but (e6) NoSeq.ins b5 z4
  replace hNS := sql_but (e6) NoSeq.ins b5 hNS
  replace hNA := dpa_but (e6) NoSeq.ins b5 hNA
  replace hL := dp_but (e6) NoSeq.ins b5 hL
  replace bb := bb.trans b5
  have rowAt : ∀ {Hm : Hp}, Same H5 Hm → ∀ (i : Nat) (x : V), rs[i]? = some x → i < hs.length + 1 ∧ ∃ (ra : Addr) (zs : List V), x = .ref ra ∧ SqL K Hm ra zs ∧ DpAll K Hm zs (js.map (lohiD ((i : Nat) : Int))) := fun {Hm} sm i x hx => by
    obtain ⟨d, hd, hv⟩ := hNA.get hx
    have il : i < hs.length + 1 := by rw [← lr]; exact (List.getElem?_eq_some_iff.mp hx).1
    rw [List.getElem?_map, List.getElem?_range il] at hd
    cases Option.some.inj hd
    obtain ⟨ra, zs, e, h1, h2⟩ := hv.list
    exact ⟨il, ra, zs, e, sm.seq h1, h2.mono sm⟩
  -- doubles
  refine ⟨_, rfl, D1, rfl, ⟨_, hNS⟩, fun D4 hD4 => ?_⟩
  refine lc_list (K := K) (a := D1) (xs := rs) (fun i Hm => Same H5 Hm ∧ Hm D4 = some (.lst (natV ((List.range i).map (doubN js))))) ⟨same_new hD4, upd_same⟩ (fun _ _ _ z => z.1.seq hNS) ?_ ?_
  · rintro i x Hm hx ⟨sm, em⟩
    obtain ⟨il, ra, zs, rfl, hr1, hr2⟩ := rowAt sm i x hx
    have lz : zs.length = js.length := by rw [hr2.length, List.length_map]
    refine ⟨rfl, yesIf ⟨_, rfl, ra, _, rfl, hr1, fun D5 hD5 => ?_⟩⟩
    refine lc_it walk_enum (fun k Hk => Same Hm Hk ∧ Hk D5 = some (.lst (natV (posL (fun j : Job => decide (lowI j.2.1 j.2.2 ((i : Nat) : Int) < highI j.2.1 j.2.2 ((i : Nat) : Int))) (js.take k) 0)))) ⟨same_new hD5, upd_same⟩ (fun k Hk _ z => z.1.seq hr1) ?_ ?_
    · rintro k y Hk Hk' hk ⟨sk, ek⟩ ⟨T, y1, z1, rfl, hT, rfl, ey, ez⟩
      dsimp only at ey ez
      cases ey
      obtain ⟨d, hd, hv⟩ := hr2.get ez
      rw [List.getElem?_map] at hd
      cases ej : js[k]? with
      | none => rw [ej] at hd; cases hd
      | some j =>
      rw [ej] at hd
      cases Option.some.inj hd
      obtain ⟨ta, ws, rfl, ht1, ht2⟩ := hv.tuple
      obtain ⟨u1, u2, rfl, hz1, hz2⟩ := ht2.two
      cases hz1.int_eq
      cases hz2.int_eq
      have sT : Same Hk (upd Hk T (.tup [.int (k : Int), .ref ta])) := same_new hT
      have eD := sT _ _ ek
      have sa := sk.trans sT
      have kl : k < js.length := (List.getElem?_eq_some_iff.mp ej).1
      have lt : (js.take k).length = k := by rw [List.length_take]; omega
      have et : js.take (k + 1) = js.take k ++ [j] := by rw [List.take_add_one, ej]; rfl
      refine ⟨T, _, rfl, SqT.of upd_same, rfl, _, _, rfl, _, _, rfl, ta, _, rfl, sameT sa ht1, rfl, _, _, rfl, _, _, rfl, rfl, rfl, rfl, ?_⟩
      refine ⟨_, rfl, _, rfl, _, _, rfl, rfl, _, rfl, ?_⟩
      refine ite2 (fun t => ?_) (fun t => ?_)
      · refine ⟨_, rfl, _, eD, ?_, Same.app hD5 sa, ?_⟩
        · refine small1000 ?_
          rw [List.length_map]
          exact Nat.le_trans (posL_len _ _ _) (by omega)
        · rw [upd_same, et, posL_snoc, lt, if_pos t, Nat.zero_add, natV, natV, List.map_append]; rfl
      · refine ⟨sa, ?_⟩
        rw [et, posL_snoc, if_neg t, List.append_nil]; exact eD
    · rintro Hk ⟨sk, ek⟩
      rw [lz, List.take_length] at ek
      have lp := posL_len (fun j : Job => decide (lowI j.2.1 j.2.2 ((i : Nat) : Int) < highI j.2.1 j.2.2 ((i : Nat) : Int))) js 0
      refine ⟨D5, _, rfl, SqL.of ek, by omega, fun m hm => ?_, fun H' s' => ⟨_, (sk.trans s') _ _ em, ?_, Same.app hD4 (sm.trans (sk.trans s')), ?_⟩⟩
      · have := posL_in _ _ _ m hm
        omega
      · rw [List.length_map, List.length_map, List.length_range]
        exact small1000 (by omega)
      · rw [upd_same, List.range_succ, List.map_append, natV, natV, List.map_append]; rfl
  rintro H7 ⟨t7, em⟩
  rw [lr] at em
  replace bb := bb.trans (But.of_same t7)
  replace hS := sameT t7 hS
  replace hA := hA.mono t7
  replace hH := hH.mono t7
  replace hZ := t7.seq hZ
  replace z4 := z4.mono t7
  replace hL := hL.mono t7
  have hD_ : SqL K H7 D4 (natV ((List.range (hs.length + 1)).map (doubN js))) := SqL.of em
  have e7 := t7 _ _ e5
  clear hD4 em t7 rowAt hNS hNA lr
  refine ⟨_, rfl, a, C, dx, _, rfl, e7, W.cl, W.ndoubles, by omega, ?_⟩
  have f6 := putF_len "doubles" (.ref D4) F5
  have ldoubles : (putF "doubles" (.ref D4) F5).lookup ("doubles" : Str) = some (.ref D4) := by rw [lookup_putF, if_pos rfl]
  have lticks : (putF "doubles" (.ref D4) F5).lookup ("ticks" : Str) = some (.int (hs.length : Int)) := by rw [lookup_putF, if_neg (by decide +kernel)]; exact lticks
  have lmost : (putF "doubles" (.ref D4) F5).lookup ("most" : Str) = some (.ref ph) := by rw [lookup_putF, if_neg (by decide +kernel)]; exact lmost
  have lsizes : (putF "doubles" (.ref D4) F5).lookup ("sizes" : Str) = some (.ref pz) := by rw [lookup_putF, if_neg (by decide +kernel)]; exact lsizes
  have lparts : (putF "doubles" (.ref D4) F5).lookup ("parts" : Str) = some (.ref pq) := by rw [lookup_putF, if_neg (by decide +kernel)]; exact lparts
  have llows : (putF "doubles" (.ref D4) F5).lookup ("lows" : Str) = some (.ref D3) := by rw [lookup_putF, if_neg (by decide +kernel)]; exact llows
  have lcrews : (putF "doubles" (.ref D4) F5).lookup ("crews" : Str) = none := by rw [lookup_putF, if_neg (by decide +kernel)]; exact lcrews
  have lis_alive : (putF "doubles" (.ref D4) F5).lookup ("is_alive" : Str) = none := by rw [lookup_putF, if_neg (by decide +kernel)]; exact lis_alive
  have lchoices : (putF "doubles" (.ref D4) F5).lookup ("choices" : Str) = none := by rw [lookup_putF, if_neg (by decide +kernel)]; exact lchoices
  have lahead_behind : (putF "doubles" (.ref D4) F5).lookup ("ahead_behind" : Str) = none := by rw [lookup_putF, if_neg (by decide +kernel)]; exact lahead_behind
  have lahead_before : (putF "doubles" (.ref D4) F5).lookup ("ahead_before" : Str) = none := by rw [lookup_putF, if_neg (by decide +kernel)]; exact lahead_before
  have lnumbers_of : (putF "doubles" (.ref D4) F5).lookup ("numbers_of" : Str) = none := by rw [lookup_putF, if_neg (by decide +kernel)]; exact lnumbers_of
  have b6 : But a H7 (upd H7 a (.ins C dx (putF "doubles" (.ref D4) F5))) := But.set
  have e6 : (upd H7 a (.ins C dx (putF "doubles" (.ref D4) F5))) a = some (.ins C dx (putF "doubles" (.ref D4) F5)) := upd_same
  generalize upd H7 a (.ins C dx (putF "doubles" (.ref D4) F5)) = H6 at b6 e6
  generalize putF "doubles" (.ref D4) F5 = F6 at f6 e6 ldoubles lticks lmost lsizes lparts llows lcrews lis_alive lchoices lahead_behind lahead_before lnumbers_of
  replace hS := sqt_but (e7) NoSeq.ins b6 hS
  replace hA := dpa_but (e7) NoSeq.ins b6 hA
  replace hH := seq_but (e7) NoSeq.ins b6 hH
  replace hZ := sql_but (e7) NoSeq.ins b6 hZ
  replace z4 := dp_but (e7) NoSeq.ins b6 z4
  replace hL := dp_but (e7) NoSeq.ins b6 hL
  replace hD_ := sql_but (e7) NoSeq.ins b6 hD_
  replace bb := bb.trans b6
  -- grown
  obtain ⟨pl_, ls, en_, hLS, hLA⟩ := hL.list
  cases en_
  have ll : ls.length = hs.length + 1 := by rw [hLA.length, List.length_map, List.length_range]
  refine ⟨_, rfl, a, C, dx, _, _, rfl, e6, W.cl, W.nlows, llows, _, rfl, a, C, dx, _, _, rfl, e6, W.cl, W.nlows, llows, _, rfl, D3, _, rfl, hLS, fun pc hpc => ?_⟩
  have ec : cutV ls (some 1) none = ls.drop 1 := cut_one (by omega)
  have s8 : Same H6 (upd H6 pc (.lst (cutV ls (some 1) none))) := same_new hpc
  have e8 : (upd H6 pc (.lst (cutV ls (some 1) none))) pc = some (.lst (ls.drop 1)) := by rw [upd_same, ec]
  revert s8 e8
  generalize upd H6 pc (.lst (cutV ls (some 1) none)) = H8
  intro s8 e8
  have hmin : hs.length = min ls.length (ls.drop 1).length := by rw [List.length_drop, ll]; omega
  have lowAt : ∀ {Hm : Hp}, Same H6 Hm → ∀ (i : Nat) (x : V), ls[i]? = some x → ∃ ra : Addr, x = .ref ra ∧ SqL K Hm ra ((lowsR js i).map V.int) := fun {Hm} sm i x hx => by
    obtain ⟨d, hd, hv⟩ := hLA.get hx
    have il : i < hs.length + 1 := by rw [← ll]; exact (List.getElem?_eq_some_iff.mp hx).1
    rw [List.getElem?_map, List.getElem?_range il] at hd
    cases Option.some.inj hd
    obtain ⟨ra, zs, e, h1, h2⟩ := hv.list
    rw [h2.ints_eq] at h1
    exact ⟨ra, e, sm.seq h1⟩
  refine ⟨D3, pc, ls, _, rfl, s8.seq hLS, SqL.of e8, fun D6 hD6 => ?_⟩
  refine lc_it (walk_zip hmin) (fun i Hm => Same H8 Hm ∧ Hm D6 = some (.lst (natV ((List.range i).map (growN js))))) ⟨same_new hD6, upd_same⟩ (fun i Hm _ z => ⟨(s8.trans z.1).seq hLS, SqL.of (z.1 _ _ e8)⟩) ?_ ?_
  · rintro i x Hm H' hi ⟨sm, em⟩ ⟨T, y, z, rfl, hT, rfl, ey, ez⟩
    dsimp only at ey ez
    rw [List.getElem?_drop, Nat.add_comm] at ez
    have sT : Same Hm (upd Hm T (.tup [y, z])) := same_new hT
    have sa := sm.trans sT
    obtain ⟨r1, rfl, h1⟩ := lowAt (s8.trans sa) i y ey
    obtain ⟨r2, rfl, h2⟩ := lowAt (s8.trans sa) (i + 1) z ez
    refine ⟨T, _, rfl, SqT.of upd_same, rfl, _, _, rfl, _, _, rfl, rfl, rfl, yesIf ?_⟩
    refine ⟨_, rfl, _, rfl, r1, r2, _, _, rfl, h1, h2, by unfold lowsR; rw [List.length_map, List.length_map], by unfold lowsR; rw [List.length_map]; exact l6, fun H' s' => ⟨_, s' _ _ (sT _ _ em), ?_, Same.app hD6 (sa.trans s'), ?_⟩⟩
    · rw [List.length_map, List.length_map, List.length_range]
      exact small1000 (by omega)
    · rw [upd_same, List.range_succ, List.map_append, natV, natV, List.map_append]; rfl
  rintro H9 ⟨t9, em⟩
  have t69 := s8.trans t9
  replace bb := bb.trans (But.of_same t69)
  replace hS := sameT t69 hS
  replace hA := hA.mono t69
  replace hH := hH.mono t69
  replace hZ := t69.seq hZ
  replace z4 := z4.mono t69
  replace hL := hL.mono t69
  replace hD_ := t69.seq hD_
  have hG_ : SqL K H9 D6 (natV ((List.range hs.length).map (growN js))) := SqL.of em
  have e9 := t69 _ _ e6
  clear hD6 em t9 s8 e8 hmin lowAt ll hLS hLA ec
  refine ⟨_, rfl, a, C, dx, _, rfl, e9, W.cl, W.ngrown, by omega, ?_⟩
  have f7 := putF_len "grown" (.ref D6) F6
  have lgrown : (putF "grown" (.ref D6) F6).lookup ("grown" : Str) = some (.ref D6) := by rw [lookup_putF, if_pos rfl]
  have lticks : (putF "grown" (.ref D6) F6).lookup ("ticks" : Str) = some (.int (hs.length : Int)) := by rw [lookup_putF, if_neg (by decide +kernel)]; exact lticks
  have lmost : (putF "grown" (.ref D6) F6).lookup ("most" : Str) = some (.ref ph) := by rw [lookup_putF, if_neg (by decide +kernel)]; exact lmost
  have lsizes : (putF "grown" (.ref D6) F6).lookup ("sizes" : Str) = some (.ref pz) := by rw [lookup_putF, if_neg (by decide +kernel)]; exact lsizes
  have lparts : (putF "grown" (.ref D6) F6).lookup ("parts" : Str) = some (.ref pq) := by rw [lookup_putF, if_neg (by decide +kernel)]; exact lparts
  have llows : (putF "grown" (.ref D6) F6).lookup ("lows" : Str) = some (.ref D3) := by rw [lookup_putF, if_neg (by decide +kernel)]; exact llows
  have ldoubles : (putF "grown" (.ref D6) F6).lookup ("doubles" : Str) = some (.ref D4) := by rw [lookup_putF, if_neg (by decide +kernel)]; exact ldoubles
  have lcrews : (putF "grown" (.ref D6) F6).lookup ("crews" : Str) = none := by rw [lookup_putF, if_neg (by decide +kernel)]; exact lcrews
  have lis_alive : (putF "grown" (.ref D6) F6).lookup ("is_alive" : Str) = none := by rw [lookup_putF, if_neg (by decide +kernel)]; exact lis_alive
  have lchoices : (putF "grown" (.ref D6) F6).lookup ("choices" : Str) = none := by rw [lookup_putF, if_neg (by decide +kernel)]; exact lchoices
  have lahead_behind : (putF "grown" (.ref D6) F6).lookup ("ahead_behind" : Str) = none := by rw [lookup_putF, if_neg (by decide +kernel)]; exact lahead_behind
  have lahead_before : (putF "grown" (.ref D6) F6).lookup ("ahead_before" : Str) = none := by rw [lookup_putF, if_neg (by decide +kernel)]; exact lahead_before
  have lnumbers_of : (putF "grown" (.ref D6) F6).lookup ("numbers_of" : Str) = none := by rw [lookup_putF, if_neg (by decide +kernel)]; exact lnumbers_of
  have b7 : But a H9 (upd H9 a (.ins C dx (putF "grown" (.ref D6) F6))) := But.set
  have e7 : (upd H9 a (.ins C dx (putF "grown" (.ref D6) F6))) a = some (.ins C dx (putF "grown" (.ref D6) F6)) := upd_same
  generalize upd H9 a (.ins C dx (putF "grown" (.ref D6) F6)) = H7 at b7 e7
  generalize putF "grown" (.ref D6) F6 = F7 at f7 e7 lgrown lticks lmost lsizes lparts llows ldoubles lcrews lis_alive lchoices lahead_behind lahead_before lnumbers_of
  replace hS := sqt_but (e9) NoSeq.ins b7 hS
  replace hA := dpa_but (e9) NoSeq.ins b7 hA
  replace hH := seq_but (e9) NoSeq.ins b7 hH
  replace hZ := sql_but (e9) NoSeq.ins b7 hZ
  replace z4 := dp_but (e9) NoSeq.ins b7 z4
  replace hL := dp_but (e9) NoSeq.ins b7 hL
  replace hD_ := sql_but (e9) NoSeq.ins b7 hD_
  replace hG_ := sql_but (e9) NoSeq.ins b7 hG_
  replace bb := bb.trans b7
  -- living
  have WF : WalkF K H7 F7 js hs := ⟨lticks, ⟨_, lmost, hH⟩, ⟨_, lsizes, hZ⟩, ⟨_, lparts, z4⟩, ⟨_, llows, hL⟩, ⟨_, ldoubles, hD_⟩, ⟨_, lgrown, hG_⟩⟩
  refine ⟨_, rfl, _, rfl, ps, _, rfl, .inr hS, a, dx, F7, js, hs, by rw [lx]; rfl, e7, WF, l6, lh, hm, fun pv_ G8 hpv t8 z8 => ?_⟩
  replace hS := sameT t8 hS
  replace hA := hA.mono t8
  replace hH := hH.mono t8
  replace hZ := t8.seq hZ
  replace z4 := z4.mono t8
  replace hL := hL.mono t8
  replace hD_ := t8.seq hD_
  replace hG_ := t8.seq hG_
  replace bb := bb.trans (But.of_same t8)
  have hV : SqL K G8 pv_ (natV (livL js hs)) := SqL.of z8
  refine ⟨_, rfl, a, C, dx, _, rfl, t8 _ _ e7, W.cl, W.nliving, by omega, ?_⟩
  have f8 := putF_len "living" (.ref pv_) F7
  have lliving : (putF "living" (.ref pv_) F7).lookup ("living" : Str) = some (.ref pv_) := by rw [lookup_putF, if_pos rfl]
  have lticks : (putF "living" (.ref pv_) F7).lookup ("ticks" : Str) = some (.int (hs.length : Int)) := by rw [lookup_putF, if_neg (by decide +kernel)]; exact lticks
  have lmost : (putF "living" (.ref pv_) F7).lookup ("most" : Str) = some (.ref ph) := by rw [lookup_putF, if_neg (by decide +kernel)]; exact lmost
  have lsizes : (putF "living" (.ref pv_) F7).lookup ("sizes" : Str) = some (.ref pz) := by rw [lookup_putF, if_neg (by decide +kernel)]; exact lsizes
  have lparts : (putF "living" (.ref pv_) F7).lookup ("parts" : Str) = some (.ref pq) := by rw [lookup_putF, if_neg (by decide +kernel)]; exact lparts
  have llows : (putF "living" (.ref pv_) F7).lookup ("lows" : Str) = some (.ref D3) := by rw [lookup_putF, if_neg (by decide +kernel)]; exact llows
  have ldoubles : (putF "living" (.ref pv_) F7).lookup ("doubles" : Str) = some (.ref D4) := by rw [lookup_putF, if_neg (by decide +kernel)]; exact ldoubles
  have lgrown : (putF "living" (.ref pv_) F7).lookup ("grown" : Str) = some (.ref D6) := by rw [lookup_putF, if_neg (by decide +kernel)]; exact lgrown
  have lcrews : (putF "living" (.ref pv_) F7).lookup ("crews" : Str) = none := by rw [lookup_putF, if_neg (by decide +kernel)]; exact lcrews
  have lis_alive : (putF "living" (.ref pv_) F7).lookup ("is_alive" : Str) = none := by rw [lookup_putF, if_neg (by decide +kernel)]; exact lis_alive
  have lchoices : (putF "living" (.ref pv_) F7).lookup ("choices" : Str) = none := by rw [lookup_putF, if_neg (by decide +kernel)]; exact lchoices
  have lahead_behind : (putF "living" (.ref pv_) F7).lookup ("ahead_behind" : Str) = none := by rw [lookup_putF, if_neg (by decide +kernel)]; exact lahead_behind
  have lahead_before : (putF "living" (.ref pv_) F7).lookup ("ahead_before" : Str) = none := by rw [lookup_putF, if_neg (by decide +kernel)]; exact lahead_before
  have lnumbers_of : (putF "living" (.ref pv_) F7).lookup ("numbers_of" : Str) = none := by rw [lookup_putF, if_neg (by decide +kernel)]; exact lnumbers_of
  have b8 : But a G8 (upd G8 a (.ins C dx (putF "living" (.ref pv_) F7))) := But.set
  have e8 : (upd G8 a (.ins C dx (putF "living" (.ref pv_) F7))) a = some (.ins C dx (putF "living" (.ref pv_) F7)) := upd_same
  generalize upd G8 a (.ins C dx (putF "living" (.ref pv_) F7)) = H8 at b8 e8
  generalize putF "living" (.ref pv_) F7 = F8 at f8 e8 lliving lticks lmost lsizes lparts llows ldoubles lgrown lcrews lis_alive lchoices lahead_behind lahead_before lnumbers_of
  replace hS := sqt_but (t8 _ _ e7) NoSeq.ins b8 hS
  replace hA := dpa_but (t8 _ _ e7) NoSeq.ins b8 hA
  replace hH := seq_but (t8 _ _ e7) NoSeq.ins b8 hH
  replace hZ := sql_but (t8 _ _ e7) NoSeq.ins b8 hZ
  replace z4 := dp_but (t8 _ _ e7) NoSeq.ins b8 z4
  replace hL := dp_but (t8 _ _ e7) NoSeq.ins b8 hL
  replace hD_ := sql_but (t8 _ _ e7) NoSeq.ins b8 hD_
  replace hG_ := sql_but (t8 _ _ e7) NoSeq.ins b8 hG_
  replace hV := sql_but (t8 _ _ e7) NoSeq.ins b8 hV
  replace bb := bb.trans b8
  exact q H8 bb ⟨dx, F8, e8, ⟨lticks, ⟨_, lmost, hH⟩, ⟨_, lsizes, hZ⟩, ⟨_, lparts, z4⟩, ⟨_, llows, hL⟩, ⟨_, ldoubles, hD_⟩, ⟨_, lgrown, hG_⟩⟩, ⟨_, lliving, hV⟩, lcrews, lis_alive, lchoices, lahead_behind, lahead_before, lnumbers_of⟩
end
end Ts
namespace Ts
open PySem PySem.Spec PyProof.Rows L2
section
variable {P : Program} {w : World} {K : PySem.W.Frag} {mg : Str → Option Value} {base : Heap}
theorem ok_alive {C f : Addr} {fd : FuncData} (F : Fun K "is_alive" "Walk.is_alive" s_Walk_is_alive f fd) (W : WalkC K mg C) : FnOk P w K mg base CX0 1 f fd ["self", "moment", "ahead"] (spAlive K C) := by
  refine F.ok sc_Walk_is_alive (fun vs H Q E h => ?_) (fun cdv A outer s H vs Q E hr h => ?_)
  · obtain ⟨a, m, c, js, hs, rfl, _⟩ := h; rfl
  obtain ⟨a, m, c, js, hs, rfl, WA, hm, q⟩ := h
  refine ⟨_, (pss_one (ps_ret (pe_cmpR op_eq (pe_op op_and (pe_op op_shr (pe_ix ix_list (pe_fld (pv 0) rfl) (pv 1) (fun _ _ => rfl)) (pv 2)) pe_int) pe_int (nomark _)))), ?_⟩
  obtain ⟨dx, fs, ha, WF, ⟨pv_, lv, hv⟩, _⟩ := WA.ex
  have hl : m < (livL js hs).length := by rw [liv_len]; omega
  refine ⟨_, rfl, a, C, dx, fs, _, rfl, ha, W.cl, W.nliving, lv, _, rfl, pv_, _, _, _, rfl, rfl, hv, atI_nat (getD_at hl), _, rfl, _, _, rfl, rfl, by omega, _, _, rfl, rfl, rfl, ?_⟩
  have ex : Builtin.bitAnd ((((livL js hs).getD m 0 : Nat) : Int) / 2 ^ ((c : Int)).toNat) 1 = (((livL js hs).getD m 0 / 2 ^ c % 2 : Nat) : Int) := by
    rw [shr_nat, show (1 : Int) = ((1 : Nat) : Int) from rfl, and_nat, Nat.and_one_is_mod]
  have e : decide (V.int (Builtin.bitAnd ((((livL js hs).getD m 0 : Nat) : Int) / 2 ^ ((c : Int)).toNat) 1) = V.int 1) = aliveB js hs m c := by
    unfold aliveB
    exact decide_eq_decide.mpr ⟨fun z => by have := V.int.inj z; rw [ex] at this; omega, fun z => by rw [ex, z]; rfl⟩
  exact (congrArg (fun b => Q (V.bl b) H) e).mpr q
theorem ok_crews {C f : Addr} {fd : FuncData} (F : Fun K "crews" "Walk.crews" s_Walk_crews f fd) (W : WalkC K mg C) : FnOk P w K mg base CX0 1 f fd ["self", "moment", "ahead"] (spCrews K C) := by
  refine F.ok sc_Walk_crews (fun vs H Q E h => ?_) (fun cdv A outer s H vs Q E hr h => ?_)
  · obtain ⟨a, m, c, js, hs, rfl, _⟩ := h; rfl
  obtain ⟨a, m, c, js, hs, rfl, WA, l6, hm, q⟩ := h
  refine ⟨_, (pss_cons (ps_set (i := 3) sc_Walk_crews.nd rfl (.inl rfl) (pe_ix ix_list (pe_fld (pv 0) rfl) (pv 1) (fun _ _ => rfl)))
      (pss_cons (ps_set (i := 4) sc_Walk_crews.nd rfl (.inr rfl) (pe_op op_and (pv 3) (pe_un un_inv (pv 2))))
      (pss_cons (ps_set (i := 5) sc_Walk_crews.nd rfl (.inl rfl) (pe_op op_and (pe_ix ix_list (pe_fld (pv 0) rfl) (pe_op op_add (pv 1) pe_int) (fun _ _ => rfl)) (pe_un un_inv (pe_op op_xor (pv 3) (pv 2)))))
      (pss_cons (ps_set (i := 6) sc_Walk_crews.nd rfl (.inr rfl) (pe_op op_sub (pe_ix ix_seq (pe_fld (pv 0) rfl) (pv 1) (fun _ _ => rfl)) (pe_ix ix_list (pe_fld (pv 0) rfl) (pv 4) (fun _ _ => rfl))))
      (pss_one (ps_ret (pe_lc (own := [("part", 7)]) rfl sc_Walk_crews.nd (pi_list (pe_ix ix_list (pe_fld (pv 0) rfl) (pv 5) (fun _ _ => rfl))) (blkOk_by (N := ["self", "moment", "ahead", "grown", "needed", "free", "room", "part"]) (sc := defScope s_Walk_crews) (own := [("part", 7)]) (by decide +kernel)) (fun _ _ _ _ _ => (pg_name (i := 7) sc_Walk_crews.nd rfl (.inl rfl) (.inr rfl))) (fun _ _ _ _ _ => (pts_one (pt_cmpR op_le (pe_ix (ixL (K := K) rfl) (pe_fldK (K := K) rfl (pv 0) rfl) (pv 7) (fun _ _ => rfl)) (pv 6) (nomark _)))) (fun _ _ _ _ _ => (pe_op op_add (pv 4) (pv 7)))))))))), ?_⟩
  obtain ⟨dx, fs, ha, WF, _⟩ := WA.ex
  obtain ⟨pd, fd_, hd_⟩ := WF.doubles
  obtain ⟨pg, fg_, hg_⟩ := WF.grown
  obtain ⟨pm, fm_, hm_⟩ := WF.most
  obtain ⟨pz, fz_, hz_⟩ := WF.sizes
  obtain ⟨vp, fp_, hp_⟩ := WF.parts
  obtain ⟨pp, ps, rfl, hpS, hpA⟩ := hp_.list
  have lps : ps.length = (subsN js.length).length := by rw [hpA.length, List.length_map]
  have n1 := need_le (growN js m) c
  have n2 := grown_lt js m
  have n3 := need_le (doubN js (m + 1)) (xorN (growN js m) c)
  have n4 := doub_lt js (m + 1)
  have g1 : m < ((List.range hs.length).map (growN js)).length := by rw [List.length_map, List.length_range]; exact hm
  have d1 : m + 1 < ((List.range (hs.length + 1)).map (doubN js)).length := by rw [List.length_map, List.length_range]; omega
  have z1 : needN (growN js m) c < (sizesN js.length).length := by rw [sizes_len]; omega
  have f1 : needN (doubN js (m + 1)) (xorN (growN js m) c) < (subsN js.length).length := by rw [subs_len]; omega
  have e1 := getD_at g1
  rw [getD_range _ hm] at e1
  have e2 := getD_at d1
  rw [getD_range _ (by omega)] at e2
  have l64 : 2 ^ js.length ≤ 64 := Nat.le_trans (Nat.pow_le_pow_right (by decide) l6) (by decide)
  -- grown, needed
  refine ⟨_, rfl, a, C, dx, fs, _, rfl, ha, W.cl, W.ngrown, fg_, _, rfl, pg, _, _, _, rfl, rfl, hg_, atI_nat e1, ?_⟩
  refine ⟨_, rfl, _, rfl, _, rfl, _, _, rfl, rfl, ?_⟩
  dsimp only
  rw [and_not]
  -- free
  refine ⟨_, rfl, a, C, dx, fs, _, rfl, ha, W.cl, W.ndoubles, fd_, _, rfl, _, _, rfl, rfl, pd, _, _, _, rfl, rfl, hd_, at_of (by omega) e2, _, rfl, _, rfl, _, _, rfl, rfl, _, rfl, _, _, rfl, rfl, ?_⟩
  dsimp only
  rw [xor_nat, and_not]
  -- room
  have ixm : ∀ R : VK, R (V.int ((hs.getD m 0 : Nat) : Int)) H → rIx K (V.ref pm) (V.int ((m : Nat) : Int)) H R := fun R r => by
    rcases hm_ with z | z
    · exact .inl ⟨pm, _, _, _, rfl, rfl, z, atI_nat (getD_at hm), r⟩
    · exact .inr (.inl ⟨pm, _, _, _, rfl, rfl, z, atI_nat (getD_at hm), r⟩)
  refine ⟨_, rfl, a, C, dx, fs, _, rfl, ha, W.cl, W.nmost, fm_, _, rfl, ixm _ ?_⟩
  refine ⟨_, rfl, a, C, dx, fs, _, rfl, ha, W.cl, W.nsizes, fz_, _, rfl, pz, _, _, _, rfl, rfl, hz_, atI_nat (getD_at z1), _, _, rfl, rfl, ?_⟩
  -- the list
  obtain ⟨d, hd, hv⟩ := hpA.get (i := needN (doubN js (m + 1)) (xorN (growN js m) c)) (v := ps[needN (doubN js (m + 1)) (xorN (growN js m) c)]'(by omega)) (List.getElem?_eq_getElem _)
  have epx : ps[needN (doubN js (m + 1)) (xorN (growN js m) c)]? = some (ps[needN (doubN js (m + 1)) (xorN (growN js m) c)]'(by omega)) := List.getElem?_eq_getElem _
  rw [List.getElem?_map, List.getElem?_eq_getElem f1] at hd
  cases Option.some.inj hd
  obtain ⟨wa, ew, hw⟩ := Dp.nats hv
  rw [ew] at epx
  obtain ⟨wl, wb⟩ := subs_in js.length _ (List.getElem_mem f1)
  unfold crewsN at q
  rw [show (subsN js.length).getD (needN (doubN js (m + 1)) (xorN (growN js m) c)) [] = (subsN js.length)[needN (doubN js (m + 1)) (xorN (growN js m) c)] by rw [List.getD_eq_getElem?_getD, List.getElem?_eq_getElem f1]; rfl] at q
  revert hw wl wb q
  generalize (subsN js.length)[needN (doubN js (m + 1)) (xorN (growN js m) c)] = wn
  intro q hw wl wb
  refine ⟨_, rfl, a, C, dx, fs, _, rfl, ha, W.cl, W.nparts, fp_, _, rfl, pp, _, _, _, rfl, rfl, hpS, atI_nat epx, wa, rfl, ⟨_, hw⟩, fun D2 hD2 => ?_⟩
  refine lc_list (K := K) (a := wa) (xs := natV wn) (fun k Hk => Same H Hk ∧ Hk D2 = some (.lst (natV (((wn.take k).filter fun p => decide ((sizesN js.length).getD p 0 + (sizesN js.length).getD (needN (growN js m) c) 0 ≤ hs.getD m 0)).map (needN (growN js m) c + ·))))) ⟨same_new hD2, upd_same⟩ (fun _ _ _ z => z.1.seq hw) ?_ ?_
  · rintro k y Hk hy ⟨sk, ek⟩
    rw [List.getElem?_map] at hy
    cases em : wn[k]? with
    | none => rw [em] at hy; cases hy
    | some p =>
    rw [em] at hy
    cases Option.some.inj hy
    have pb := wb p (List.mem_of_getElem? em)
    have z2 : p < (sizesN js.length).length := by rw [sizes_len]; exact pb
    refine ⟨rfl, _, rfl, a, C, dx, fs, _, rfl, sk _ _ ha, W.cl, W.nsizes, fz_, _, rfl, pz, _, _, _, rfl, rfl, sk.seq hz_, atI_nat (getD_at z2), _, rfl, _, _, rfl, rfl, _, rfl, ?_⟩
    have e9 : decide (((sizesN js.length).getD p 0 : Int) ≤ ((hs.getD m 0 : Nat) : Int) - (((sizesN js.length).getD (needN (growN js m) c) 0 : Nat) : Int)) = decide ((sizesN js.length).getD p 0 + (sizesN js.length).getD (needN (growN js m) c) 0 ≤ hs.getD m 0) := decide_eq_decide.mpr (by omega)
    dsimp only
    rw [e9]
    refine ite2 (fun t => ?_) (fun t => ?_)
    · refine ⟨_, rfl, _, rfl, _, _, rfl, rfl, _, ek, ?_, Same.app hD2 sk, ?_⟩
      · rw [List.length_map, List.length_map]
        refine small1000 (Nat.le_trans (List.length_filter_le _ _) ?_)
        rw [List.length_take]; omega
      · rw [upd_same, filter_take_succ _ em, if_pos t, List.map_append, natV, natV, List.map_append]
        show some (HO.lst (_ ++ [V.int (((needN (growN js m) c : Nat) : Int) + ((p : Nat) : Int))])) = _
        rw [← Int.natCast_add]; rfl
    · refine ⟨sk, ?_⟩
      rw [filter_take_succ _ em, if_neg t, List.append_nil]; exact ek
  · rintro Hk ⟨sk, ek⟩
    rw [List.length_map, List.take_length] at ek
    exact q D2 Hk hD2 sk ek
theorem ok_choicesW {C f : Addr} {fd : FuncData} (F : Fun K "choices" "Walk.choices" s_Walk_choices f fd) (W : WalkC K mg C) (m_crews : HasD P w K mg base 1 C "crews" ["self", "moment", "ahead"] (spCrews K C)) : FnOk P w K mg base CX0 2 f fd ["self", "moment", "ahead"] (spChoicesW K C) := by
  refine F.ok sc_Walk_choices (fun vs H Q E h => ?_) (fun cdv A outer s H vs Q E hr h => ?_)
  · obtain ⟨a, m, c, js, hs, rfl, _⟩ := h; rfl
  obtain ⟨a, m, c, js, hs, rfl, WA, l6, hm, q⟩ := h
  refine ⟨_, (pss_cons (ps_set (i := 3) sc_Walk_choices.nd rfl (.inr rfl) (pe_ix ix_list (pe_fld (pv 0) rfl) (pe_op op_add (pv 1) pe_int) (fun _ _ => rfl)))
      (pss_cons (ps_set (i := 4) sc_Walk_choices.nd rfl (.inr rfl) (pe_op op_sub (pv 2) (pe_ix ix_list (pe_fld (pv 0) rfl) (pv 1) (fun _ _ => rfl))))
      (pss_one (ps_ret (pe_lc (own := [("crew", 5)]) rfl sc_Walk_choices.nd (pi_list (pe_hd m_crews W.cl (hr.mono (by decide)) (pv 0) (pa_cons (pv 1) (pa_cons (pv 2) pa_nil)))) (blkOk_by (N := ["self", "moment", "ahead", "living", "shift", "crew"]) (sc := defScope s_Walk_choices) (own := [("crew", 5)]) (by decide +kernel)) (fun _ _ _ _ _ => (pg_name (i := 5) sc_Walk_choices.nd rfl (.inl rfl) (.inr rfl))) (fun _ _ _ _ _ => (pts_one (pt_truI (pe_op op_and (pe_op op_shr (pv 3) (pe_op op_add (pv 4) (pv 5))) pe_int)))) (fun _ _ _ _ _ => (pv 5))))))), ?_⟩
  obtain ⟨dx, fs, ha, WF, ⟨pv_, lv, hv⟩, lcr, _⟩ := id WA.ex
  obtain ⟨pg, fg_, hg_⟩ := WF.grown
  have hl : m + 1 < (livL js hs).length := by rw [liv_len]; omega
  have g1 : m < ((List.range hs.length).map (growN js)).length := by rw [List.length_map, List.length_range]; exact hm
  have e1 := getD_at g1
  rw [getD_range _ hm] at e1
  refine ⟨_, rfl, a, C, dx, fs, _, rfl, ha, W.cl, W.nliving, lv, _, rfl, _, _, rfl, rfl, pv_, _, _, _, rfl, rfl, hv, at_of (by omega) (getD_at hl), ?_⟩
  refine ⟨_, rfl, _, rfl, a, C, dx, fs, _, rfl, ha, W.cl, W.ngrown, fg_, _, rfl, pg, _, _, _, rfl, rfl, hg_, atI_nat e1, _, _, rfl, rfl, ?_⟩
  refine ⟨_, rfl, a, dx, fs, rfl, ha, lcr, _, rfl, _, rfl, a, m, c, js, hs, rfl, WA, l6, hm, fun p H1 hp s1 e1 => ?_⟩
  have cl := crews_len (js := js) (hs := hs) (m := m) (a := c) l6
  have ci := crews_in (js := js) (hs := hs) (m := m) (a := c)
  unfold choicesN at q
  revert cl ci q e1
  generalize crewsN js hs m c = cs
  intro q e1 cl ci
  refine ⟨p, rfl, ⟨_, SqL.of e1⟩, fun D2 hD2 => ?_⟩
  refine lc_list (K := K) (a := p) (xs := natV cs) (fun k Hk => Same H1 Hk ∧ Hk D2 = some (.lst (natV ((cs.take k).filter fun x => (livL js hs).getD (m + 1) 0 / 2 ^ (c + x - growN js m) % 2 == 1)))) ⟨same_new hD2, upd_same⟩ (fun _ _ _ z => z.1.seq (SqL.of e1)) ?_ ?_
  · rintro k y Hk hy ⟨sk, ek⟩
    rw [List.getElem?_map] at hy
    cases em : cs[k]? with
    | none => rw [em] at hy; cases hy
    | some x =>
    rw [em] at hy
    cases Option.some.inj hy
    obtain ⟨x1, _⟩ := ci x (List.mem_of_getElem? em)
    have ex : ((c : Nat) : Int) - ((growN js m : Nat) : Int) + ((x : Nat) : Int) = ((c + x - growN js m : Nat) : Int) := by omega
    refine ⟨rfl, _, rfl, _, rfl, _, rfl, _, _, rfl, rfl, _, _, rfl, rfl, ?_⟩
    dsimp only
    rw [ex]
    refine ⟨by omega, _, _, rfl, rfl, _, rfl, ?_⟩
    rw [shr_nat, odd_test]
    have e9 : decide ((livL js hs).getD (m + 1) 0 / 2 ^ (c + x - growN js m) % 2 = 1) = ((livL js hs).getD (m + 1) 0 / 2 ^ (c + x - growN js m) % 2 == 1) := by
      generalize (livL js hs).getD (m + 1) 0 / 2 ^ (c + x - growN js m) = z
      have : z % 2 = 0 ∨ z % 2 = 1 := by omega
      rcases this with t | t <;> rw [t] <;> rfl
    rw [e9]
    refine ite2 (fun t => ?_) (fun t => ?_)
    · refine ⟨_, rfl, _, ek, ?_, Same.app hD2 sk, ?_⟩
      · rw [List.length_map]
        refine small1000 (Nat.le_trans (List.length_filter_le _ _) ?_)
        rw [List.length_take]; omega
      · rw [upd_same, filter_take_succ _ em, if_pos t, natV, natV, List.map_append]; rfl
    · refine ⟨sk, ?_⟩
      rw [filter_take_succ _ em, if_neg t, List.append_nil]; exact ek
  · rintro Hk ⟨sk, ek⟩
    rw [List.length_map, List.take_length] at ek
    exact q D2 Hk (s1.free hD2) (s1.trans sk) ek
end
end Ts
namespace Ts
open PySem PySem.Spec PyProof.Rows L2
section
variable {P : Program} {w : World} {K : PySem.W.Frag} {mg : Str → Option Value} {base : Heap}
theorem has_round_of {C CW : Addr} (D : DefAt K mg "round_of" s_round_of) (T : LotC K mg C) (W : WalkC K mg CW) (p_shares : PropH P w K mg base C "shares" "_shares") (p_hands : PropH P w K mg base C "hands" "_hands") (p_span : PropH P w K mg base C "span" "_span")
    (hWalk : HasM P w K mg base 3 CW ["self", "shares", "hands"] (spInitW K CW)) : Has P w K mg base 5 "round_of" ["lot"] (spRoundOf K C CW) := by
  refine D.has (fun _ _ _ _ _ _ us hl => match us, hl with | [_], _ => rfl) fun f fd F => F.ok sc_round_of (fun vs H Q E h => ?_) (fun cdv A outer s H vs Q E hr h => ?_)
  · obtain ⟨a, n, js, rfl, _⟩ := h; rfl
  obtain ⟨a, n, js, rfl, L, G, l6, hs, hn, q⟩ := h
  refine ⟨_, (pss_one (ps_ret (pe_hm hWalk W.mgC (hr.mono (by decide)) (pa_cons (pe_ph p_shares T.cl (hr.mono (by decide)) (pv 0)) (pa_cons (pe_op op_rep (pe_lst (pa_cons (pe_ph p_hands T.cl (hr.mono (by decide)) (pv 0)) pa_nil)) (pe_ph p_span T.cl (hr.mono (by decide)) (pv 0))) pa_nil))))), ?_⟩
  obtain ⟨dx, pn, ps, pt, ha, h1, h2, h3⟩ := L.ex
  obtain ⟨ps2, xs, e, hS, hA⟩ := h2.tuple
  cases e
  have sp := span_pos G
  refine ⟨_, rfl, lot_get ha lot_shares ⟨_, rfl, lot_get ha lot_hands ⟨by show 1 ≤ sizeLine; decide, fun l hl => ?_⟩⟩⟩
  have s1 : Same H (upd H l (.lst [.int (n : Int)])) := same_new hl
  refine ⟨_, rfl, lot_get (s1 _ _ ha) lot_span ?_⟩
  refine ⟨l, (spanN js : Int), _, rfl, rfl, upd_same, by omega, by omega, ?_, fun p hp => ?_⟩
  · rw [Int.toNat_natCast]
    exact Nat.le_of_lt (small1000 (show 1 * spanN js ≤ 1000 by omega))
  have s2 : Same H (upd (upd H l (.lst [.int (n : Int)])) p (.lst (List.replicate ((spanN js : Int)).toNat [V.int (n : Int)]).flatten)) := s1.trans (same_new hp)
  have e2 : (upd (upd H l (.lst [.int (n : Int)])) p (.lst (List.replicate ((spanN js : Int)).toNat [V.int (n : Int)]).flatten)) p = some (.lst (natV (handsL n js))) := by
    rw [upd_same, Int.toNat_natCast, List.flatten_replicate_singleton, natV, List.map_replicate]
  revert s2 e2
  generalize upd (upd H l (.lst [.int (n : Int)])) p (.lst (List.replicate ((spanN js : Int)).toNat [V.int (n : Int)]).flatten) = H2
  intro s2 e2
  intro x dx hx hdx hnx
  have s3 : Same H2 (upd (upd H2 dx (.own x)) x (.ins CW dx [])) := fun a o e => by
    rw [upd_ne (ne_of_none e hx), upd_ne (ne_of_none e hdx)]; exact e
  refine ⟨x, dx, ps, p, xs, js, handsL n js, rfl, upd_same, sameT (s2.trans s3) hS, hA.mono (s2.trans s3), .inl (SqL.of (s3 _ _ e2)), G, l6, by rw [List.length_replicate]; omega, fun m hm => by rw [List.eq_of_mem_replicate hm]; exact hn, fun H4 b4 W4 => ⟨rfl, ?_⟩⟩
  have s24 := lot_same b4 hx hdx
  exact q x H4 (s2.free hx) (s2.trans s24) W4
theorem has_ahead_in {C : Addr} (D : DefAt K mg "ahead_in" s_ahead_in) (B : Blt0 mg) (h__numbers_at : Has P w K mg base 3 "_numbers_at" ["lot", "moment"] (spNumbersAt K C)) (h_crew_of : Has P w K mg base 1 "crew_of" ["members"] (spCrewOf K)) : Has P w K mg base 4 "ahead_in" ["lot", "moment", "standing"] (spAheadIn K C) := by
  refine D.has (fun _ _ _ _ _ _ us hl => match us, hl with | [_, _, _], _ => rfl) fun f fd F => F.ok sc_ahead_in (fun vs H Q E h => ?_) (fun cdv A outer s H vs Q E hr h => ?_)
  · obtain ⟨a, p, n, js, t, r, rfl, _⟩ := h; rfl
  obtain ⟨a, p, n, js, t, r, rfl, L, G, l6, hR, lr, q⟩ := h
  refine ⟨_, (pss_cons (ps_set (i := 3) sc_ahead_in.nd rfl (.inr rfl) (pe_h h__numbers_at (hr.mono (by decide)) (pa_cons (pv 0) (pa_cons (pv 1) pa_nil))))
      (pss_one (ps_ret (pe_h h_crew_of (hr.mono (by decide)) (pa_cons (pe_lc (own := [("at", 4), ("number", 5)]) rfl sc_ahead_in.nd (pi_enumT (by rfl) B.zenumerate (pa_cons (pv 2) pa_nil)) (blkOk_by (N := ["lot", "moment", "standing", "numbers", "at", "number"]) (sc := defScope s_ahead_in) (own := [("at", 4), ("number", 5)]) (by decide +kernel)) (fun _ _ _ _ _ => (pg_tupK (K := K) (n := 2) rfl rfl (pgs_cons (pg_name (i := 4) sc_ahead_in.nd rfl (.inl rfl) (.inr rfl)) (pgs_cons (pg_name (i := 5) sc_ahead_in.nd rfl (.inl rfl) (.inr rfl)) pgs_nil)))) (fun _ _ _ _ _ => (pts_one (pt_cmpR op_gt (pv 5) (pe_ix (ixT (K := K) rfl) (pe_ix (ixL (K := K) rfl) (pv 3) (pv 4) (fun _ _ => rfl)) pe_int (fun _ _ => rfl)) (nomark _)))) (fun _ _ _ _ _ => (pv 4))) pa_nil))))), ?_⟩
  refine ⟨_, rfl, _, rfl, a, n, js, t, rfl, L, G, l6, fun pn H1 hpn s1 D1 => ?_⟩
  obtain ⟨pn2, ys, e, hS, hA⟩ := D1.list
  cases e
  have ly : ys.length = js.length := by rw [hA.length, List.length_map]
  refine ⟨_, rfl, p, _, rfl, sameT s1 hR, fun D2 hD2 => ?_⟩
  refine lc_it (wlk_enumT (K := K) (a := p) (xs := r.map V.int) (c := 0)) (fun i Hm => Same H1 Hm ∧ Hm D2 = some (.lst (natV (posL (fun q : Job × Int => decide (lowI q.1.2.1 q.1.2.2 t < q.2)) ((js.zip r).take i) 0)))) ⟨same_new hD2, upd_same⟩ (fun i Hm _ z => sameT (s1.trans z.1) hR) ?_ ?_
  · rintro i x Hm H' hi ⟨sm, em⟩ ⟨T, y, z, rfl, hT, rfl, ey, ez⟩
    dsimp only at ey ez
    cases ey
    rw [List.getElem?_map] at ez
    obtain ⟨m, hm, rfl⟩ : ∃ m, r[i]? = some m ∧ V.int m = z := by
      cases e : r[i]? with
      | none => rw [e] at ez; cases ez
      | some m => rw [e] at ez; exact ⟨m, rfl, Option.some.inj ez⟩
    have ir : i < r.length := (List.getElem?_eq_some_iff.mp hm).1
    obtain ⟨j, hj⟩ : ∃ j, js[i]? = some j := ⟨js[i], List.getElem?_eq_getElem (by omega)⟩
    have e0 : (0 : Int) + (i : Int) = ((i : Nat) : Int) := by omega
    rw [e0]
    have sT : Same Hm (upd Hm T (.tup [.int ((i : Nat) : Int), .int m])) := same_new hT
    have eD := sT _ _ em
    have sa := sm.trans sT
    have ez2 : (js.zip r)[i]? = some (j, m) := by rw [List.getElem?_zip_eq_some]; exact ⟨hj, hm⟩
    have lz : ((js.zip r).take i).length = i := by rw [List.length_take, List.length_zip]; omega
    have et : (js.zip r).take (i + 1) = (js.zip r).take i ++ [(j, m)] := by rw [List.take_add_one, ez2]; rfl
    obtain ⟨d, hd, hv⟩ := hA.get (i := i) (v := ys[i]'(by omega)) (List.getElem?_eq_getElem _)
    have epx : ys[i]? = some (ys[i]'(by omega)) := List.getElem?_eq_getElem _
    rw [List.getElem?_map, hj] at hd
    cases Option.some.inj hd
    obtain ⟨ta, ws, ew, ht1, ht2⟩ := hv.tuple
    rw [ew] at epx
    obtain ⟨u1, u2, rfl, hz1, hz2⟩ := ht2.two
    cases hz1.int_eq
    cases hz2.int_eq
    refine ⟨T, _, rfl, SqT.of upd_same, rfl, _, _, rfl, _, _, rfl, rfl, rfl, ?_⟩
    refine ⟨_, rfl, _, rfl, _, rfl, pn, ys, ((i : Nat) : Int), _, rfl, rfl, sa.seq hS, atI_nat epx, ta, _, (0 : Int), _, rfl, rfl, sameT sa ht1, atI_nat (j := 0) rfl, _, _, rfl, rfl, _, rfl, ?_⟩
    refine ite2 (fun c => ?_) (fun c => ?_)
    · refine ⟨_, rfl, _, eD, ?_, Same.app hD2 sa, ?_⟩
      · refine small1000 ?_
        rw [List.length_map]
        exact Nat.le_trans (posL_len _ _ _) (by omega)
      · rw [upd_same, et, posL_snoc, lz, if_pos (show decide (lowI (j, m).1.2.1 (j, m).1.2.2 t < (j, m).2) = true from c), Nat.zero_add, natV, natV, List.map_append]; rfl
    · refine ⟨sa, ?_⟩
      rw [et, posL_snoc, if_neg (show ¬ decide (lowI (j, m).1.2.1 (j, m).1.2.2 t < (j, m).2) = true from c), List.append_nil]; exact eD
  · rintro Hm ⟨sm, em⟩
    have e0 : (js.zip r).take (r.map V.int).length = js.zip r := by
      rw [List.length_map]; exact List.take_of_length_le (by rw [List.length_zip]; omega)
    rw [e0] at em
    have lp := posL_len (fun q : Job × Int => decide (lowI q.1.2.1 q.1.2.2 t < q.2)) (js.zip r) 0
    have lz : (js.zip r).length ≤ 6 := by rw [List.length_zip]; omega
    refine ⟨D2, _, rfl, SqL.of em, by omega, fun m hm => ?_, fun H' s' => q H' (s1.trans (sm.trans s'))⟩
    have := posL_in _ _ _ m hm
    omega
theorem has_check_standing {C : Addr} (D : DefAt K mg "check_standing" s_check_standing) (B : Blt0 mg) (h__numbers_at : Has P w K mg base 3 "_numbers_at" ["lot", "moment"] (spNumbersAt K C)) (h_is_number : Has P w K mg base 2 "is_number" ["value", "low", "high"] spIsNumber) : Has P w K mg base 4 "check_standing" ["lot", "moment", "standing"] (spCheckStanding K C) := by
  refine D.has (fun _ _ _ _ _ _ us hl => match us, hl with | [_, _, _], _ => rfl) fun f fd F => F.ok sc_check_standing (fun vs H Q E h => ?_) (fun cdv A outer s H vs Q E hr h => ?_)
  · obtain ⟨a, p, n, js, t, r, rfl, _⟩ := h; rfl
  obtain ⟨a, p, n, js, t, r, rfl, L, G, l6, hR, hr0, q⟩ := h
  refine ⟨_, (pss_cons (ps_set (i := 3) sc_check_standing.nd rfl (.inl rfl) (pe_h h__numbers_at (hr.mono (by decide)) (pa_cons (pv 0) (pa_cons (pv 1) pa_nil))))
      (pss_cons (ps_if (PW.pt (pw_or (pt_not (pt_val (pe_callB call_isi (by rfl) B.zisinstance (by decide +kernel) (pa_cons (pv 2) (pa_cons (pe_ty "tuple" B.ztuple) pa_nil))))) (pw_or1 (pt_cmpR op_ne (pe_callB call_len_seq (by rfl) B.zlen (by decide +kernel) (pa_cons (pv 2) pa_nil)) (pe_callB call_len_seq (by rfl) B.zlen (by decide +kernel) (pa_cons (pv 3) pa_nil)) (nomark _))))) (pss_one ps_never) pss_nil)
      (pss_one (ps_for PassesOwn.never rfl (pi_zipM (K := K) rfl (by rfl) B.zzip (pa_cons (pv 2) (pa_cons (pv 3) pa_nil))) (pg_tup rfl (pgs_cons (pg_name (i := 4) sc_check_standing.nd rfl (.inl rfl)) (pgs_cons (pg_tup rfl (pgs_cons (pg_name (i := 5) sc_check_standing.nd rfl (.inl rfl)) (pgs_cons (pg_name (i := 6) sc_check_standing.nd rfl (.inl rfl)) pgs_nil))) pgs_nil))) (pss_one (ps_if (pt_not (pt_val (pe_h h_is_number (hr.mono (by decide)) (pa_cons (pv 4) (pa_cons (pv 5) (pa_cons (pv 6) pa_nil)))))) (pss_one ps_never) pss_nil)))))), ?_⟩
  obtain ⟨lr, hrm⟩ := rows_mem G hr0
  refine ⟨_, rfl, _, rfl, a, n, js, t, rfl, L, G, l6, fun pn H1 hpn s1 D1 => ?_⟩
  obtain ⟨pn2, ys, e, hS, hA⟩ := D1.list
  cases e
  have ly : ys.length = js.length := by rw [hA.length, List.length_map]
  have hR1 := sameT s1 hR
  refine ⟨_, rfl, _, _, _, _, _, rfl, .ty "tuple", sqt_ty hR1, kit_ty (r := true) (by decide +kernel), true, rfl, iteF ?_⟩
  refine ⟨_, rfl, p, _, rfl, .inr hR1, _, rfl, pn, _, rfl, .inl hS, rfl, _, rfl, ?_⟩
  have d0 : (!decide (V.int (((r.map V.int).length : Nat) : Int) = V.int ((ys.length : Nat) : Int))) = false := by
    rw [decide_eq_true (show V.int (((r.map V.int).length : Nat) : Int) = V.int ((ys.length : Nat) : Int) by rw [List.length_map, lr, ly])]; rfl
  refine itF d0 ?_
  have hmin : js.length = min (r.map V.int).length ys.length := by rw [List.length_map, lr, ly, Nat.min_self]
  refine ⟨_, rfl, _, rfl, p, pn, _, ys, rfl, hR1, hS, ?_⟩
  refine for_it (walk_zipM hmin) (fun i σ Hn => Same H1 Hn ∧ ∃ v4 v5 v6, σ = [some (.ref a), some (.int t), some (.ref p), some (.ref pn), v4, v5, v6]) ⟨Same.refl _, _, _, _, rfl⟩ (fun i σ Hn _ z => ⟨sameT z.1 hR1, z.1.seq hS⟩) ?_ ?_
  · rintro i x σ H2 H3 hi ⟨s2, v4, v5, v6, rfl⟩ ⟨T, y, z, rfl, hT, rfl, ey, ez⟩
    dsimp only at ey ez
    rw [List.getElem?_map] at ey
    obtain ⟨m, hm, rfl⟩ : ∃ m, r[i]? = some m ∧ V.int m = y := by
      cases e : r[i]? with
      | none => rw [e] at ey; cases ey
      | some m => rw [e] at ey; exact ⟨m, rfl, Option.some.inj ey⟩
    obtain ⟨d, hd, hv⟩ := hA.get ez
    rw [List.getElem?_map] at hd
    cases ej : js[i]? with
    | none => rw [ej] at hd; cases hd
    | some j =>
    rw [ej] at hd
    cases Option.some.inj hd
    obtain ⟨ta, ws, rfl, ht1, ht2⟩ := hv.tuple
    obtain ⟨u1, u2, rfl, hz1, hz2⟩ := ht2.two
    cases hz1.int_eq
    cases hz2.int_eq
    have sT : Same H1 (upd H2 T (.tup [.int m, .ref ta])) := s2.trans (same_new hT)
    have hb := hrm i j m ej hm
    refine ⟨T, _, rfl, SqT.of upd_same, rfl, _, _, rfl, _, _, rfl, ta, _, rfl, sameT sT ht1, rfl, _, _, rfl, _, _, rfl, rfl, rfl, ?_⟩
    refine ⟨_, rfl, _, rfl, _, rfl, m, _, _, rfl, _, rfl, ?_⟩
    rw [decide_eq_true hb]
    exact iteF ⟨sT, _, _, _, rfl⟩
  · rintro σ H2 ⟨s2, v4, v5, v6, rfl⟩
    exact q H2 (s1.trans s2)
end
end Ts
namespace Ts
open PySem PySem.Spec PyProof.Rows L2
section
variable {P : Program} {w : World} {K : PySem.W.Frag} {mg : Str → Option Value} {base : Heap}
theorem ok_aliveL {C CW f : Addr} {fd : FuncData} (F : Fun K "alive" "alive" s_alive f fd) (B : Blt mg) (T : LotC K mg C) (W : WalkC K mg CW) (p_span : PropH P w K mg base C "span" "_span") (h_standings : Has P w K mg base 5 "standings" ["lot", "moment"] (spStandings K C))
    (h_round_of : Has P w K mg base 5 "round_of" ["lot"] (spRoundOf K C CW)) (h_ahead_in : Has P w K mg base 4 "ahead_in" ["lot", "moment", "standing"] (spAheadIn K C)) (m_is_alive : HasD P w K mg base 1 CW "is_alive" ["self", "moment", "ahead"] (spAlive K CW)) : FnOk P w K mg base CX0 6 f fd ["lot", "moment"] (spAliveL K C) := by
  refine F.ok sc_alive (fun vs H Q E h => ?_) (fun cdv A outer s H vs Q E hr h => ?_)
  · obtain ⟨a, n, js, t, rfl, _⟩ := h; rfl
  obtain ⟨a, n, js, t, rfl, L, G, l6, hn, hs, t0, t1, q⟩ := h
  refine ⟨_, (pss_cons (ps_set (i := 2) sc_alive.nd rfl (.inl rfl) (pe_h h_standings (hr.mono (by decide)) (pa_cons (pv 0) (pa_cons (pv 1) pa_nil))))
      (pss_cons (ps_set (i := 3) sc_alive.nd rfl (.inr rfl) (pe_h h_round_of (hr.mono (by decide)) (pa_cons (pv 0) pa_nil)))
      (pss_one (ps_ret (pe_callTy call_tuple_of (by rfl) B.ztuple (by decide +kernel) (pa_cons (pe_lc (own := [("standing", 4)]) rfl sc_alive.nd (pi_tup (pv 2)) (blkOk_by (N := ["lot", "moment", "told", "walk", "standing"]) (sc := defScope s_alive) (own := [("standing", 4)]) (by decide +kernel)) (fun _ _ _ _ _ => (pg_name (i := 4) sc_alive.nd rfl (.inl rfl) (.inr rfl))) (fun _ _ _ _ _ => (pts_one (pt_val (pe_hd m_is_alive W.cl (hr.mono (by decide)) (pv 3) (pa_cons (pe_op op_mod (pv 1) (pe_ph p_span T.cl (hr.mono (by decide)) (pv 0))) (pa_cons (pe_h h_ahead_in (hr.mono (by decide)) (pa_cons (pv 0) (pa_cons (pv 1) (pa_cons (pv 4) pa_nil)))) pa_nil)))))) (fun _ _ _ _ _ => (pv 4))) pa_nil)))))), ?_⟩
  have sp := span_pos G
  refine ⟨_, rfl, _, rfl, a, n, js, t, rfl, L, G, l6, hs, t0, t1, fun p H1 hp s1 D1 => ?_⟩
  refine ⟨_, rfl, a, n, js, rfl, L.mono s1, G, l6, hs, hn, fun wk H2 hwk s2 W2 => ?_⟩
  have s12 := s1.trans s2
  obtain ⟨p2, rs, e, hS1, hA1⟩ := D1.tuple
  cases e
  have hS := sameT s2 hS1
  have hA := hA1.mono s2
  have lr : rs.length = (rowsR js t).length := by rw [hA.length, List.length_map]
  have l64 : (rowsR js t).length ≤ 64 := Nat.le_trans rows_len (Nat.le_trans (Nat.pow_le_pow_right (by decide) l6) (by decide))
  have em : t % (spanN js : Int) = (((t % (spanN js : Int)).toNat : Nat) : Int) := (Int.toNat_of_nonneg (Int.emod_nonneg _ (by omega))).symm
  have ml : (t % (spanN js : Int)).toNat ≤ (handsL n js).length := by
    rw [List.length_replicate]
    have := Int.emod_lt_of_pos t (show (0 : Int) < (spanN js : Int) by omega)
    omega
  have LL := L.mono s12
  refine ⟨_, rfl, p, rfl, ⟨_, hS⟩, fun D2 hD2 => ?_⟩
  refine lc_tup (K := K) (a := p) (xs := rs) (fun i Hm => Same H2 Hm ∧ ∃ us, Hm D2 = some (.lst us) ∧ DpAll K (hid D2 Hm) us ((((rowsR js t).take i).filter fun r => aliveB js (handsL n js) (t % (spanN js : Int)).toNat (aheadN js t r)).map rowD)) ⟨same_new hD2, [], upd_same, .nil⟩ (fun _ _ _ z => sameT z.1 hS) ?_ ?_
  · rintro i x Hm hx ⟨sm, us, eu, um⟩
    obtain ⟨d, hd, hv⟩ := hA.get hx
    rw [List.getElem?_map] at hd
    cases er : (rowsR js t)[i]? with
    | none => rw [er] at hd; cases hd
    | some r =>
    rw [er] at hd
    cases Option.some.inj hd
    obtain ⟨ra, zs, rfl, hr1, hr2⟩ := hv.tuple
    cases hr2.ints_eq
    have lrr := rows_each r (List.mem_of_getElem? er)
    obtain ⟨dx, pn, ps, pt, ha, _⟩ := (LL.mono sm).ex
    obtain ⟨dw, fw, hw, _, _, _, la, _⟩ := (W2.mono sm).ex
    have lu : us.length < sizeLine := by
      have h := um.length
      rw [List.length_map] at h
      refine small1000 ?_
      rw [h]
      refine Nat.le_trans (List.length_filter_le _ _) ?_
      rw [List.length_take]; omega
    refine ⟨rfl, _, rfl, wk, dw, fw, rfl, hw, la, _, rfl, _, rfl, lot_get ha lot_span ?_⟩
    refine ⟨_, _, rfl, rfl, by show (0 : Int) < (spanN js : Int); omega, ?_⟩
    refine ⟨_, rfl, _, rfl, _, rfl, a, ra, n, js, t, r, rfl, LL.mono sm, G, l6, sameT sm hr1, lrr, fun H3 s3 => ?_⟩
    refine ⟨wk, _, _, js, handsL n js, by dsimp only; rw [em]; rfl, W2.mono (sm.trans s3), ml, _, rfl, ?_⟩
    refine ite2 (fun c => ?_) (fun c => ?_)
    · refine ⟨_, rfl, us, s3 _ _ eu, lu, Same.app hD2 (sm.trans s3), _, upd_same, ?_⟩
      rw [filter_take_succ _ er, if_pos c, List.map_append]
      refine ((um.mono (hid_same s3)).mono hid_put).snoc ?_
      have dr : Dp K H3 (.ref ra) (rowD r) := .tup (sameT (sm.trans s3) hr1) (DpAll.ints _)
      exact (dp_hideT (s3 _ _ eu) (.tup fun d hd => by
        obtain ⟨z, _, rfl⟩ := List.mem_map.mp hd
        exact .int _) _ dr).mono hid_put
    · refine ⟨sm.trans s3, us, s3 _ _ eu, ?_⟩
      rw [filter_take_succ _ er, if_neg c, List.append_nil]
      exact um.mono (hid_same s3)
  · rintro Hm ⟨sm, us, eu, um⟩
    rw [lr, List.take_length] at um
    refine ⟨D2, us, rfl, .inl ⟨SqL.of eu, fun p5 hp5 => ?_⟩⟩
    exact q p5 _ (s12.free (sm.free hp5)) (s12.trans (sm.trans (same_new hp5))) (.tup (SqT.of upd_same) ((um.mono hid_sub).mono (same_new hp5)))
theorem ok_choicesL {C CW f : Addr} {fd : FuncData} (F : Fun K "choices" "choices" s_choices f fd) (B : Blt mg) (T : LotC K mg C) (W : WalkC K mg CW) (p_span : PropH P w K mg base C "span" "_span") (h_check_lot : Has P w K mg base 1 "check_lot" ["lot"] (spCheck C)) (h_check_moment : Has P w K mg base 4 "check_moment" ["moment"] spOkMoment)
    (h_check_standing : Has P w K mg base 4 "check_standing" ["lot", "moment", "standing"] (spCheckStanding K C)) (h_check_round : Has P w K mg base 3 "check_round" ["lot"] (spCheckRound K C)) (h_round_of : Has P w K mg base 5 "round_of" ["lot"] (spRoundOf K C CW)) (h_ahead_in : Has P w K mg base 4 "ahead_in" ["lot", "moment", "standing"] (spAheadIn K C))
    (h_members_of : Has P w K mg base 1 "members_of" ["crew"] spMembersOf) (m_choices : HasD P w K mg base 2 CW "choices" ["self", "moment", "ahead"] (spChoicesW K CW)) : FnOk P w K mg base CX0 6 f fd ["lot", "moment", "standing"] (spChoicesL K C) := by
  refine F.ok sc_choices (fun vs H Q E h => ?_) (fun cdv A outer s H vs Q E hr h => ?_)
  · obtain ⟨a, p, n, js, t, r, rfl, _⟩ := h; rfl
  obtain ⟨a, p, n, js, t, r, rfl, L, G, l6, hn, hs, t0, t1, hR, hr0, q⟩ := h
  refine ⟨_, (pss_cons (ps_expr (pe_h h_check_lot (hr.mono (by decide)) (pa_cons (pv 0) pa_nil)))
      (pss_cons (ps_expr (pe_h h_check_moment (hr.mono (by decide)) (pa_cons (pv 1) pa_nil)))
      (pss_cons (ps_expr (pe_h h_check_standing (hr.mono (by decide)) (pa_cons (pv 0) (pa_cons (pv 1) (pa_cons (pv 2) pa_nil)))))
      (pss_cons (ps_expr (pe_h h_check_round (hr.mono (by decide)) (pa_cons (pv 0) pa_nil)))
      (pss_cons (ps_set (i := 3) sc_choices.nd rfl (.inl rfl) (pe_hd m_choices W.cl (hr.mono (by decide)) (pe_h h_round_of (hr.mono (by decide)) (pa_cons (pv 0) pa_nil)) (pa_cons (pe_op op_mod (pv 1) (pe_ph p_span T.cl (hr.mono (by decide)) (pv 0))) (pa_cons (pe_h h_ahead_in (hr.mono (by decide)) (pa_cons (pv 0) (pa_cons (pv 1) (pa_cons (pv 2) pa_nil)))) pa_nil))))
      (pss_one (ps_ret (pe_callTy call_tuple_of (by rfl) B.ztuple (by decide +kernel) (pa_cons (pe_callB (cr_sortE (hu2 (hu64 hr))) (by rfl) B.zsorted (by decide +kernel) (pa_cons (pe_lc (own := [("crew", 4)]) rfl sc_choices.nd (pi_list (pv 3)) (blkOk_by (N := ["lot", "moment", "standing", "crews", "crew"]) (sc := defScope s_choices) (own := [("crew", 4)]) (by decide +kernel)) (fun _ _ _ _ _ => (pg_name (i := 4) sc_choices.nd rfl (.inl rfl) (.inr rfl))) (fun _ _ _ _ _ => pts_nil) (fun _ _ _ _ _ => (pe_h h_members_of (hr.mono (by decide)) (pa_cons (pv 4) pa_nil)))) pa_nil)) pa_nil))))))))), ?_⟩
  have sp := span_pos G
  obtain ⟨dx, pn, ps, pt, ha, _⟩ := L.ex
  have lrr := rows_each r hr0
  refine ⟨_, rfl, a, dx, _, rfl, ha, ?_⟩
  show tSeq _ _ _ _ _
  refine ⟨_, rfl, t, rfl, t0, t1, ?_⟩
  show tSeq _ _ _ _ _
  refine ⟨_, rfl, _, rfl, _, rfl, a, p, n, js, t, r, rfl, L, G, l6, hR, hr0, fun H1 s1 => ?_⟩
  show tSeq _ _ _ _ _
  refine ⟨_, rfl, a, n, js, rfl, L.mono s1, hs, ?_⟩
  show tSeq _ _ _ _ _
  refine ⟨_, rfl, a, n, js, rfl, L.mono s1, G, l6, hs, hn, fun wk H2 hwk s2 W2 => ?_⟩
  have s12 := s1.trans s2
  obtain ⟨dw, fw, hw, _, _, _, _, lc_, _⟩ := W2.ex
  obtain ⟨dx2, pn2, ps2, pt2, ha2, _⟩ := (L.mono s12).ex
  have em : t % (spanN js : Int) = (((t % (spanN js : Int)).toNat : Nat) : Int) := (Int.toNat_of_nonneg (Int.emod_nonneg _ (by omega))).symm
  have ml : (t % (spanN js : Int)).toNat < (handsL n js).length := by
    rw [List.length_replicate]
    have := Int.emod_lt_of_pos t (show (0 : Int) < (spanN js : Int) by omega)
    omega
  refine ⟨wk, dw, fw, rfl, hw, lc_, _, rfl, _, rfl, lot_get ha2 lot_span ?_⟩
  refine ⟨_, _, rfl, rfl, by show (0 : Int) < (spanN js : Int); omega, ?_⟩
  refine ⟨_, rfl, _, rfl, _, rfl, a, p, n, js, t, r, rfl, L.mono s12, G, l6, sameT s12 hR, lrr, fun H3 s3 => ?_⟩
  refine ⟨wk, _, _, js, handsL n js, by dsimp only; rw [em]; rfl, W2.mono s3, l6, ml, fun pc H4 hpc s4 e4 => ?_⟩
  have ct := choices_tail (js := js) (hs := handsL n js) (m := (t % (spanN js : Int)).toNat) (a := aheadN js t r)
  have cl := choices_lt (js := js) (hs := handsL n js) (m := (t % (spanN js : Int)).toNat) (a := aheadN js t r) l6
  have cn : (choicesN js (handsL n js) (t % (spanN js : Int)).toNat (aheadN js t r)).length ≤ 64 := Nat.le_trans (List.length_filter_le _ _) (crews_len l6)
  have s14 := s12.trans (s3.trans s4)
  revert ct cl cn q e4
  generalize choicesN js (handsL n js) (t % (spanN js : Int)).toNat (aheadN js t r) = cs
  intro q e4 ct cl cn
  refine ⟨_, rfl, pc, rfl, ⟨_, SqL.of e4⟩, fun D2 hD2 => ?_⟩
  refine lc_list (K := K) (a := pc) (xs := natV cs) (fun i Hm => Same H4 Hm ∧ ∃ us, Hm D2 = some (.lst us) ∧ DpAll K (hid D2 Hm) us ((crewRows (cs.take i)).map rowD)) ⟨same_new hD2, [], upd_same, .nil⟩ (fun _ _ _ z => SqL.of (z.1 _ _ e4)) ?_ ?_
  · rintro i x Hm hx ⟨sm, us, eu, um⟩
    rw [List.getElem?_map] at hx
    cases ec : cs[i]? with
    | none => rw [ec] at hx; cases hx
    | some c =>
    rw [ec] at hx
    cases Option.some.inj hx
    have cb := cl c (List.mem_of_getElem? ec)
    have lu : us.length < sizeLine := by
      have h := um.length
      unfold crewRows at h
      rw [List.length_map, List.length_map, List.length_take] at h
      exact small1000 (by omega)
    refine ⟨rfl, yesIf ⟨_, rfl, c, rfl, by omega, fun pm H5 hpm s5 e5 => ?_⟩⟩
    have np : pm ≠ D2 := (ne_of_none eu hpm).symm
    refine ⟨us, s5 _ _ eu, lu, Same.app hD2 (sm.trans s5), _, upd_same, ?_⟩
    unfold crewRows
    rw [map_take_succ _ ec, List.map_append]
    refine ((um.mono (hid_same s5)).mono hid_put).snoc (.tup (SqT.of (by rw [hid_ne np, upd_ne np]; exact e5)) ?_)
    rw [List.map_map]
    exact dp_nats _
  · rintro Hm ⟨sm, us, eu, um⟩
    rw [List.length_map, List.take_length] at um
    refine ⟨D2, us, crewRows cs, rfl, SqL.of eu, um.mono hid_sub, fun r hr => ?_, fun ys rows2 p2 d2 o1 o2 hp2 => ?_⟩
    · unfold crewRows at hr
      rw [tail_map] at hr
      obtain ⟨c, hc, rfl⟩ := List.mem_map.mp hr
      rw [List.length_map]
      exact members_pos (ct c hc) (cl c (List.mem_of_mem_tail hc))
    · have s5 : Same Hm (upd Hm p2 (.lst ys)) := same_new hp2
      refine ⟨p2, ys, rfl, .inl ⟨SqL.of upd_same, fun p5 hp5 => ?_⟩⟩
      have s6 := s5.trans (same_new (o := .tup ys) hp5)
      exact q p5 rows2 _ o1 o2 (s14.free (sm.free (s5.free hp5))) (s14.trans (sm.trans s6)) (.tup (SqT.of upd_same) (d2.mono s6))
end
end Ts
namespace Ts
open PySem PySem.Spec PyProof.Rows L2 L2H LamX
section
variable {P : Program} {w : World} {K : PySem.W.Frag} {mg : Str → Option Value} {base : Heap}
theorem has_is_number_fromA (D : DefAt K mg "is_number_from" s_is_number_from) (B : Blt0 mg) : Has P w K mg base 1 "is_number_from" ["value", "low"] (spIsNumberFromA K) := by
  refine D.has (fun _ _ _ _ _ _ us hl => match us, hl with | [_, _], _ => rfl) fun f fd F => F.ok sc_is_number_from (fun vs H Q E h => ?_) (fun cdv A outer s H vs Q E hr h => ?_)
  · obtain ⟨v, lo, o, rfl, _⟩ := h; rfl
  obtain ⟨v, lo, o, rfl, hv, q⟩ := h
  refine ⟨_, (pss_one (ps_ret (pe_and (pe_callB call_isi (by rfl) B.zisinstance (by decide +kernel) (pa_cons (pv 0) (pa_cons (pe_ty "int" B.zint) pa_nil))) (pe_and (pe_not (pe_callB call_isi (by rfl) B.zisinstance (by decide +kernel) (pa_cons (pv 0) (pa_cons (pe_ty "bool" B.zbool) pa_nil)))) (pe_one (pe_cmpR op_le (pv 1) (pv 0) (nomark _))))))), ?_⟩
  cases o with
  | some i =>
    cases hv
    refine ⟨_, rfl, _, _, _, _, _, rfl, .ty "int", .base (.int i), kit_ty (r := true) (by decide +kernel), true, rfl, ?_⟩
    refine iteT ⟨_, rfl, _, _, _, _, _, rfl, .ty "bool", .base (.int i), kit_ty (r := false) (by decide +kernel), false, rfl, true, rfl, ?_⟩
    exact iteT ⟨_, rfl, _, rfl, _, _, rfl, rfl, q⟩
  | none =>
    obtain ⟨T, hT, ht⟩ := hv
    by_cases tb : T = "bool"
    · subst tb
      refine ⟨_, rfl, _, _, _, _, _, rfl, .ty "int", ht, kit_ty (r := true) (by decide +kernel), true, rfl, ?_⟩
      exact iteT ⟨_, rfl, _, _, _, _, _, rfl, .ty "bool", ht, kit_ty (r := true) (by decide +kernel), true, rfl, false, rfl, iteF q⟩
    · have k : PySem.W.kitOne K (.type T) (.type "int") = some false := by
        have go : ∀ T ∈ ["bool", "str", "NoneType", "list", "tuple", "dict"], T ≠ "bool" → kitB T "int" = some false := by decide +kernel
        exact kit_ty (go T hT tb)
      exact ⟨_, rfl, _, _, _, _, _, rfl, .ty "int", ht, k, false, rfl, iteF q⟩
theorem has_is_numberA (D : DefAt K mg "is_number" s_is_number) (B : Blt0 mg) (h_is_number_from : Has P w K mg base 1 "is_number_from" ["value", "low"] (spIsNumberFromA K)) : Has P w K mg base 2 "is_number" ["value", "low", "high"] (spIsNumberA K) := by
  refine D.has (fun _ _ _ _ _ _ us hl => match us, hl with | [_, _, _], _ => rfl) fun f fd F => F.ok sc_is_number (fun vs H Q E h => ?_) (fun cdv A outer s H vs Q E hr h => ?_)
  · obtain ⟨v, lo, hi, o, rfl, _⟩ := h; rfl
  obtain ⟨v, lo, hi, o, rfl, hv, q⟩ := h
  refine ⟨_, (pss_one (ps_ret (pe_and (pe_h h_is_number_from (hr.mono (by decide)) (pa_cons (pv 0) (pa_cons (pv 1) pa_nil))) (pe_one (pe_cmpR op_le (pv 0) (pv 2) (nomark _)))))), ?_⟩
  refine ⟨_, rfl, _, rfl, v, lo, o, rfl, hv, ?_⟩
  cases o with
  | none => exact ⟨false, rfl, iteF q⟩
  | some i =>
    cases hv
    refine ⟨decide (lo ≤ i), rfl, ite2 (fun c => ?_) (fun c => ?_)⟩
    · refine ⟨_, rfl, _, rfl, _, _, rfl, rfl, ?_⟩
      have e : decide (i ≤ hi) = inRg (some i) lo hi := by
        have := of_decide_eq_true c
        show decide (i ≤ hi) = decide (lo ≤ i ∧ i ≤ hi)
        by_cases z : i ≤ hi <;> simp [z, this]
      rw [← e] at q
      exact q
    · have e : inRg (some i) lo hi = false := decide_eq_false fun z => c (decide_eq_true z.1)
      rw [e] at q; exact q
theorem hx_check_number {C : Addr} (D : DefAt K mg "check_number" s_check_number) (T_InvalidNumber : ErrB P w K mg base "InvalidNumber" C "given") (h_is_number : Has P w K mg base 2 "is_number" ["value", "low", "high"] (spIsNumberA K)) : HasX P w K mg base 3 "check_number" ["number", "low", "high"] (spCheckNumberX K C) := by
  refine D.hasX (fun _ _ _ _ _ _ us hl => match us, hl with | [_, _, _], _ => rfl) fun f fd F => F.okX sc_check_number (fun vs H Q E h => ?_) (fun cdv A outer s H vs Q E hr h => ?_)
  · obtain ⟨v, lo, hi, o, rfl, _⟩ := h; rfl
  obtain ⟨v, lo, hi, o, rfl, hv, q1, q2⟩ := h
  have tk := takes_of (X := cxOf (L2.CX P w) P w K mg base ["number", "low", "high"] "check_number" (defScope s_check_number) f cdv A outer s H E) (E := E) rfl rfl rfl rfl
  refine ⟨_, (pss_one (ps_if (pt_not (pt_val (pe_h h_is_number (hr.mono (by decide)) (pa_cons (pv 0) (pa_cons (pv 1) (pa_cons (pv 2) pa_nil)))))) (pss_one (ps_raise rfl tk (pmk_errB T_InvalidNumber (hr.mono (by decide)) (pv 0)))) pss_nil)), ?_⟩
  refine ⟨_, rfl, _, rfl, _, rfl, v, lo, hi, o, rfl, hv, _, rfl, ?_⟩
  cases e : inRg o lo hi with
  | true => exact iteF (q1 e)
  | false => exact iteT ⟨_, rfl, mk_err fun d hd => q2 e H d (fun _ _ z => z) hd⟩
end
end Ts
namespace Ts
open PySem PySem.Spec PyProof.Rows L2 L2H LamX
section
variable {P : Program} {w : World} {K : PySem.W.Frag} {mg : Str → Option Value} {base : Heap}
theorem hx_check_lot {C CL : Addr} (D : DefAt K mg "check_lot" s_check_lot) (B : Blt mg) (T : LotC K mg C) (I : LotI K C) (Z : LotNo K C) (T_NotALot : ErrB P w K mg base "NotALot" CL "given") : HasX P w K mg base 3 "check_lot" ["lot"] (spCheckLotX K C CL) := by
  refine D.hasX (fun _ _ _ _ _ _ us hl => match us, hl with | [_], _ => rfl) fun f fd F => F.okX sc_check_lot (fun vs H Q E h => ?_) (fun cdv A outer s H vs Q E hr h => ?_)
  · obtain ⟨v, o, rfl, _⟩ := h; rfl
  obtain ⟨v, o, rfl, hv, q1, q2⟩ := h
  have tk := takes_of (X := cxOf (L2.CX P w) P w K mg base ["lot"] "check_lot" (defScope s_check_lot) f cdv A outer s H E) (E := E) rfl rfl rfl rfl
  refine ⟨_, (pss_one (ps_if (pt_not (pt_val (pe_callB call_isi (by rfl) B.zisinstance (by decide +kernel) (pa_cons (pv 0) (pa_cons (pe_gref T.mgC) pa_nil))))) (pss_one (ps_raise rfl tk (pmk_errB T_NotALot (hr.mono (by decide)) (pv 0)))) pss_nil)), ?_⟩
  cases o with
  | some p =>
    obtain ⟨a, rfl, L⟩ := hv
    obtain ⟨dx, pn, ps, pt, ha, h1, h2, h3⟩ := L.ex
    exact ⟨_, rfl, _, _, _, _, _, rfl, .own C, .base (.ins ha T.cl I.ha I.hn I.htk I.hm), kit_self, true, rfl, iteF (q1 rfl)⟩
  | none =>
    obtain ⟨T9, hT, ht⟩ := hv
    exact ⟨_, rfl, _, _, _, _, _, rfl, .own C, ht, Z.no _ hT, false, rfl, iteT ⟨_, rfl, mk_err fun d hd => q2 rfl H d (fun _ _ z => z) hd⟩⟩
end
end Ts
namespace Ts
open PySem PySem.Spec PyProof.Rows L2 L2H LamX
section
variable {P : Program} {w : World} {K : PySem.W.Frag} {mg : Str → Option Value} {base : Heap}
theorem okp_repr {f C : Addr} {fd : FuncData} (F : Fun K "__repr__" "Lot.__repr__" s_Lot___repr__ f fd) (T : LotC K mg C) (B : Blt mg) : FnP P w K mg base 1 f fd ["self"] (fun _ => spRepr K C) := by
  refine fun_p F sc_Lot___repr__ (fun p vs H Q E h => ?_) (fun cdv A outer s H vs Q p hr h => ?_)
  · obtain ⟨a, n, js, rfl, _⟩ := h; rfl
  obtain ⟨a, n, js, rfl, L, hn, hl, q⟩ := h
  obtain ⟨dx, pn, ps, pt, ha, h1, h2, h3⟩ := L.ex
  refine ⟨_, (pss_one (ps_ret (pe_joined (PJ.cons pe_str (PJ.cons (pe_fmt (pe_callB call_len_seq (by rfl) B.zlen (by decide +kernel) (pa_cons (pe_fld (pv 0) rfl) pa_nil))) (PJ.cons pe_str (PJ.cons (pe_fmt (pe_fld (pv 0) rfl)) (PJ.cons pe_str PJ.nil)))))))), ?_⟩
  have l1 : (Str.ofString "Lot of ").length = 7 := by decide
  have l2 : (Str.ofString " works, ").length = 8 := by decide
  have l3 : (Str.ofString " hands").length = 6 := by decide
  have l4 : (Str.empty : Str).length = 0 := by decide
  have l5 := numS_len (n := js.length) (by omega)
  have l6 := numS_len hn
  have lx : ((js.map (·.1)).map V.str).length = js.length := by rw [List.length_map, List.length_map]
  have big : ∀ {k : Nat}, k ≤ 40 → k ≤ sizeLine := fun h => Nat.le_of_lt (small1000 (by omega))
  refine ⟨_, rfl, big (by rw [Str.length_append, l4, l1]; decide), ?_⟩
  refine ⟨_, rfl, a, C, dx, _, _, rfl, ha, T.cl, T.n3, lot_names, pn, _, rfl, .inr h1.seq, ?_⟩
  rw [lx]
  refine .inr ⟨_, rfl, num_okI (by omega) (by omega), _, rfl, big (by rw [Str.length_append, Str.length_append, l4, l1]; show 0 + 7 + (numS js.length).length ≤ 40; omega), ?_⟩
  refine ⟨_, rfl, big (by rw [Str.length_append, Str.length_append, Str.length_append, l4, l1, l2]; show 0 + 7 + (numS js.length).length + 8 ≤ 40; omega), ?_⟩
  refine ⟨_, rfl, a, C, dx, _, _, rfl, ha, T.cl, T.n2, lot_hands, .inr ⟨_, rfl, num_okI (by omega) (by omega), _, rfl, big (by rw [Str.length_append, Str.length_append, Str.length_append, Str.length_append, l4, l1, l2]; show 0 + 7 + (numS js.length).length + 8 + (numS n).length ≤ 40; omega), ?_⟩⟩
  refine ⟨_, rfl, big (by rw [Str.length_append, Str.length_append, Str.length_append, Str.length_append, Str.length_append, l4, l1, l2, l3]; show 0 + 7 + (numS js.length).length + 8 + (numS n).length + 6 ≤ 40; omega), ?_⟩
  show Q (V.str (Str.empty ++ Str.ofString "Lot of " ++ numS js.length ++ Str.ofString " works, " ++ numS n ++ Str.ofString " hands")) _
  have e0 : Str.empty ++ Str.ofString "Lot of " = Str.ofString "Lot of " := by decide +kernel
  rw [e0]
  exact q
end
end Ts
namespace Ts
open PySem PySem.Spec PyProof.Rows L2 L2H LamX
section
variable {P : Program} {w : World} {K : PySem.W.Frag} {mg : Str → Option Value} {base : Heap}
theorem hx_check_moment {CN : Addr} (D : DefAt K mg "check_moment" s_check_moment) (FA : ∃ t, mg "FARTHEST" = some (.int (10 ^ 30) t)) (hx_check_number : HasX P w K mg base 3 "check_number" ["number", "low", "high"] (spCheckNumberX K CN)) : HasX P w K mg base 4 "check_moment" ["moment"] (spCheckFarX K CN 0) := by
  refine D.hasX (fun _ _ _ _ _ _ us hl => match us, hl with | [_], _ => rfl) fun f fd F => F.okX sc_check_moment (fun vs H Q E h => ?_) (fun cdv A outer s H vs Q E hr h => ?_)
  · obtain ⟨v, o, rfl, _⟩ := h; rfl
  obtain ⟨v, o, rfl, hv, q1, q2⟩ := h
  have tk := takes_of (X := cxOf (L2.CX P w) P w K mg base ["moment"] "check_moment" (defScope s_check_moment) f cdv A outer s H E) (E := E) rfl rfl rfl rfl
  exact ⟨_, (pss_one (ps_expr (pe_x hx_check_number (hr.mono (by decide)) tk (pa_cons (pv 0) (pa_cons pe_int (pa_cons (pe_gint FA) pa_nil)))))), _, rfl, v, 0, 10 ^ 30, o, rfl, hv, q1, q2⟩
end
end Ts
namespace Ts
open PySem PySem.Spec PyProof.Rows L2 L2H LamX
section
variable {P : Program} {w : World} {K : PySem.W.Frag} {mg : Str → Option Value} {base : Heap}
theorem hx_check_round {C CY : Addr} (D : DefAt K mg "check_round" s_check_round) (T : LotC K mg C) (MR : ∃ t, mg "MOST_ROUND" = some (.int 720 t)) (p_span : PropH P w K mg base C "span" "_span") (T_TooMany : ErrB P w K mg base "TooMany" CY "limit") : HasX P w K mg base 3 "check_round" ["lot"] (spCheckRoundX K C CY) := by
  refine D.hasX (fun _ _ _ _ _ _ us hl => match us, hl with | [_], _ => rfl) fun f fd F => F.okX sc_check_round (fun vs H Q E h => ?_) (fun cdv A outer s H vs Q E hr h => ?_)
  · obtain ⟨a, n, js, rfl, _⟩ := h; rfl
  obtain ⟨a, n, js, rfl, L, q1, q2⟩ := h
  have tk := takes_of (X := cxOf (L2.CX P w) P w K mg base ["lot"] "check_round" (defScope s_check_round) f cdv A outer s H E) (E := E) rfl rfl rfl rfl
  refine ⟨_, (pss_one (ps_if (pt_cmpR op_gt (pe_ph p_span T.cl (hr.mono (by decide)) (pv 0)) (pe_gint MR) (nomark _)) (pss_one (ps_raise rfl tk (pmk_errB T_TooMany (hr.mono (by decide)) (pe_gint MR)))) pss_nil)), ?_⟩
  obtain ⟨dx, pn, ps, pt, ha, _⟩ := L.ex
  refine ⟨_, rfl, lot_get ha lot_span ?_⟩
  exact ⟨_, _, rfl, rfl, _, rfl, ite2 (fun c => mk_err fun d hd => q2 (by have := (of_decide_eq_true c : (720 : Int) < (spanN js : Int)); omega) H d (fun _ _ z => z) hd) (fun c => q1 (by have : ¬ (720 : Int) < (spanN js : Int) := fun z => c (decide_eq_true z); omega))⟩
theorem hx_check_standing {C CS : Addr} (D : DefAt K mg "check_standing" s_check_standing) (B : Blt0 mg) (h__numbers_at : Has P w K mg base 3 "_numbers_at" ["lot", "moment"] (spNumbersAt K C)) (h_is_number : Has P w K mg base 2 "is_number" ["value", "low", "high"] (spIsNumberA K)) (T_InvalidStanding : ErrB P w K mg base "InvalidStanding" CS "given") : HasX P w K mg base 4 "check_standing" ["lot", "moment", "standing"] (spCheckStandingX K C CS) := by
  refine D.hasX (fun _ _ _ _ _ _ us hl => match us, hl with | [_, _, _], _ => rfl) fun f fd F => F.okX sc_check_standing (fun vs H Q E h => ?_) (fun cdv A outer s H vs Q E hr h => ?_)
  · obtain ⟨a, n, js, t, v, o, rfl, _⟩ := h; rfl
  obtain ⟨a, n, js, t, v, o, rfl, L, G, l6, hv, q1, q2⟩ := h
  have tk := takes_of (X := cxOf (L2.CX P w) P w K mg base ["lot", "moment", "standing", "numbers", "number", "low", "high"] "check_standing" (defScope s_check_standing) f cdv A outer s H E) (E := E) rfl rfl rfl rfl
  refine ⟨_, (pss_cons (ps_set (i := 3) sc_check_standing.nd rfl (.inl rfl) (pe_h h__numbers_at (hr.mono (by decide)) (pa_cons (pv 0) (pa_cons (pv 1) pa_nil))))
      (pss_cons (ps_if (PW.pt (pw_or (pt_not (pt_val (pe_callB call_isi (by rfl) B.zisinstance (by decide +kernel) (pa_cons (pv 2) (pa_cons (pe_ty "tuple" B.ztuple) pa_nil))))) (pw_or1 (pt_cmpR op_ne (pe_callB call_len_seq (by rfl) B.zlen (by decide +kernel) (pa_cons (pv 2) pa_nil)) (pe_callB call_len_seq (by rfl) B.zlen (by decide +kernel) (pa_cons (pv 3) pa_nil)) (nomark _))))) (pss_one (ps_raise rfl tk (pmk_errB T_InvalidStanding (hr.mono (by decide)) (pv 2)))) pss_nil)
      (pss_one (ps_for (passes_of rfl) rfl (pi_zipM (K := K) rfl (by rfl) B.zzip (pa_cons (pv 2) (pa_cons (pv 3) pa_nil))) (pg_tup rfl (pgs_cons (pg_name (i := 4) sc_check_standing.nd rfl (.inl rfl)) (pgs_cons (pg_tup rfl (pgs_cons (pg_name (i := 5) sc_check_standing.nd rfl (.inl rfl)) (pgs_cons (pg_name (i := 6) sc_check_standing.nd rfl (.inl rfl)) pgs_nil))) pgs_nil))) (pss_one (ps_if (pt_not (pt_val (pe_h h_is_number (hr.mono (by decide)) (pa_cons (pv 4) (pa_cons (pv 5) (pa_cons (pv 6) pa_nil)))))) (pss_one (ps_raise rfl tk (pmk_errB T_InvalidStanding (hr.mono (by decide)) (pv 2)))) pss_nil)))))), ?_⟩
  refine ⟨_, rfl, _, rfl, a, n, js, t, rfl, L, G, l6, fun pn H1 hpn s1 D1 => ?_⟩
  obtain ⟨pn2, ys, e, hS, hA⟩ := D1.list
  cases e
  have ly : ys.length = js.length := by rw [hA.length, List.length_map]
  have hv1 := hv.mono s1
  by_cases ts : tyN o = "tuple"
  · obtain ⟨ds, rfl⟩ : ∃ ds, o = some (.tuple ds) := by
      unfold tyN at ts
      split at ts
      all_goals first | exact ⟨_, rfl⟩ | exact absurd ts (by decide)
    have hd : Dp K H1 v (.tuple ds) := hv1
    obtain ⟨p, xs, rfl, hT, hX⟩ := hd.tuple
    have lx : xs.length = ds.length := hX.length
    refine ⟨_, rfl, _, _, _, _, _, rfl, .ty "tuple", sqt_ty hT, kit_ty (r := true) (by decide +kernel), true, rfl, iteF ?_⟩
    refine ⟨_, rfl, p, _, rfl, .inr hT, _, rfl, pn, _, rfl, .inl hS, rfl, _, rfl, ?_⟩
    by_cases el : xs.length = js.length
    · have d0 : (!decide (V.int ((xs.length : Nat) : Int) = V.int ((ys.length : Nat) : Int))) = false := by
        rw [el, ly, decide_eq_true rfl]; rfl
      refine itF d0 ?_
      have hmin : js.length = min xs.length ys.length := by rw [el, ly, Nat.min_self]
      refine ⟨_, rfl, _, rfl, p, pn, xs, ys, rfl, hT, hS, ?_⟩
      refine for_it (walk_zipM hmin) (fun i σ Hn => Same H1 Hn ∧ inLH t (js.drop i) (ds.drop i) = inLH t js ds ∧ ∃ v4 v5 v6, σ = [some (.ref a), some (.int t), some (.ref p), some (.ref pn), v4, v5, v6]) ⟨Same.refl _, rfl, _, _, _, rfl⟩ (fun i σ Hn _ z => ⟨sameT z.1 hT, z.1.seq hS⟩) ?_ ?_
      · rintro i x σ H2 H3 hi ⟨s2, hb, v4, v5, v6, rfl⟩ ⟨T, y, z, rfl, hT2, rfl, ey, ez⟩
        dsimp only at ey ez
        obtain ⟨d, hd, hvd⟩ := hA.get ez
        rw [List.getElem?_map] at hd
        obtain ⟨dx, hdx, hvx⟩ := hX.get ey
        cases ej : js[i]? with
        | none => rw [ej] at hd; cases hd
        | some j =>
        rw [ej] at hd
        cases Option.some.inj hd
        obtain ⟨ta, ws, rfl, ht1, ht2⟩ := hvd.tuple
        obtain ⟨u1, u2, rfl, hz1, hz2⟩ := ht2.two
        cases hz1.int_eq
        cases hz2.int_eq
        have sT : Same H1 (upd H2 T (.tup [y, .ref ta])) := s2.trans (same_new hT2)
        rw [inLH_drop ej hdx] at hb
        refine ⟨T, _, rfl, SqT.of upd_same, rfl, _, _, rfl, _, _, rfl, ta, _, rfl, sameT sT ht1, rfl, _, _, rfl, _, _, rfl, rfl, rfl, ?_⟩
        refine ⟨_, rfl, _, rfl, _, rfl, y, _, _, kindD dx, rfl, (dp_kind hvx).mono sT, _, rfl, ?_⟩
        cases ei : inRg (kindD dx) (lowI j.2.1 j.2.2 t) (highI j.2.1 j.2.2 t) with
        | true =>
          rw [ei, Bool.true_and] at hb
          exact iteF ⟨sT, hb, _, _, _, rfl⟩
        | false =>
          rw [ei, Bool.false_and] at hb
          exact iteT ⟨_, rfl, mk_err fun d hd => q2 hb.symm _ d (s1.trans sT) hd⟩
      · rintro σ H2 ⟨s2, hb, v4, v5, v6, rfl⟩
        rw [el.symm.trans lx |>.symm.symm, List.drop_length] at hb
        have e0 : js.drop ds.length = [] := List.drop_eq_nil_of_le (by omega)
        rw [e0] at hb
        exact q1 hb.symm H2 (s1.trans s2)
    · have d0 : (!decide (V.int ((xs.length : Nat) : Int) = V.int ((ys.length : Nat) : Int))) = true := by
        rw [decide_eq_false (fun z => el (by have := V.int.inj z; omega))]; rfl
      have e0 : stB js t (some (.tuple ds)) = false := by
        cases e : inLH t js ds with
        | false => exact e
        | true => exact absurd (lx.trans (inLH_len e)) el
      exact itT d0 ⟨_, rfl, mk_err fun d hd => q2 e0 _ d s1 hd⟩
  · have e0 : stB js t o = false := by
      unfold stB
      split
      · exact absurd rfl ts
      · rfl
    have kn : PySem.W.kitOne K (.type (tyN o)) (.type "tuple") = some false := by
      have go : ∀ T ∈ ["dict", "NoneType", "bool", "int", "str", "list", "tuple"], T ≠ "tuple" → kitB T "tuple" = some false := by decide +kernel
      exact kit_ty (go _ (tyN_in o) ts)
    exact ⟨_, rfl, _, _, _, _, _, rfl, .ty "tuple", hv1.ty, kn, false, rfl, iteT ⟨_, rfl, mk_err fun d hd => q2 e0 _ d s1 hd⟩⟩
end
end Ts
namespace Ts
open PySem PySem.Spec PyProof.Rows L2 L2H LamX
section
variable {P : Program} {w : World} {K : PySem.W.Frag} {mg : Str → Option Value} {base : Heap}
theorem okx_standings {C CL CN CY f : Addr} {fd : FuncData} {sp0 : Sp} (F : Fun K "standings" "standings" s_standings f fd) (F0 : FnOk P w K mg base CX0 5 f fd ["lot", "moment"] sp0) (hx_check_lot : HasX P w K mg base 3 "check_lot" ["lot"] (spCheckLotX K C CL)) (hx_check_moment : HasX P w K mg base 4 "check_moment" ["moment"] (spCheckFarX K CN 0)) (hx_check_round : HasX P w K mg base 3 "check_round" ["lot"] (spCheckRoundX K C CY)) :
    FnOk P w K mg base (L2.CX P w) 5 f fd ["lot", "moment"] (spTwoX K C CL CN CY sp0) := by
  refine FnOk.both (spE := fun vs H Q E => ∃ (v t : V) (o : Option (Nat × List Job)) (k : Option Int), vs = [v, t] ∧ LotOr K C H v o ∧ KindV K H t k ∧ ((o = none ∧ Raise1 CL "given" v H E) ∨ ∃ n js, o = some (n, js) ∧ ((inRg k 0 (10 ^ 30) = false ∧ Raise1 CN "given" t H E) ∨ (inRg k 0 (10 ^ 30) = true ∧ 720 < spanN js ∧ Raise1 CY "limit" (.int 720) H E)))) F0 ?_ fun vs H Q E h => ?_
  · refine F.okX sc_standings (fun vs H Q E h => ?_) (fun cdv A outer s H vs Q E hr h => ?_)
    · obtain ⟨v, t, o, k, rfl, _⟩ := h; rfl
    obtain ⟨v, t, o, k, rfl, hv, ht, h⟩ := h
    have tk := takes_of (X := cxOf (L2.CX P w) P w K mg base ["lot", "moment", "low", "high"] "standings" (defScope s_standings) f cdv A outer s H E) (E := E) rfl rfl rfl rfl
    rcases h with ⟨rfl, q⟩ | ⟨n, js, rfl, ⟨ek, q⟩ | ⟨ek, es, q⟩⟩
    · exact ⟨_, pss_stop (ps_expr (pe_x hx_check_lot (hr.mono (by decide)) tk (pa_cons (pv 0) pa_nil))), _, rfl, v, none, rfl, hv, (fun z => by cases z), fun _ => q⟩
    · exact ⟨_, pss_cons (ps_expr (pe_x hx_check_lot (hr.mono (by decide)) tk (pa_cons (pv 0) pa_nil))) (pss_stop (ps_expr (pe_x hx_check_moment (hr.mono (by decide)) tk (pa_cons (pv 1) pa_nil)))), _, rfl, v, some (n, js), rfl, hv, (fun _ => ⟨_, rfl, t, k, rfl, ht, (fun z => by rw [ek] at z; cases z), fun _ => q⟩), fun z => by cases z⟩
    · obtain ⟨a, rfl, L⟩ := id hv
      exact ⟨_, pss_cons (ps_expr (pe_x hx_check_lot (hr.mono (by decide)) tk (pa_cons (pv 0) pa_nil))) (pss_cons (ps_expr (pe_x hx_check_moment (hr.mono (by decide)) tk (pa_cons (pv 1) pa_nil))) (pss_stop (ps_expr (pe_x hx_check_round (hr.mono (by decide)) tk (pa_cons (pv 0) pa_nil))))), _, rfl, _, some (n, js), rfl, hv, (fun _ => ⟨_, rfl, t, k, rfl, ht, (fun _ => ⟨_, rfl, a, n, js, rfl, L, (fun z => by omega), fun _ => q⟩), fun z => by rw [ek] at z; cases z⟩), fun z => by cases z⟩
  · obtain ⟨v, t, o, k, rfl, hv, ht, q1, q2, q3, q4⟩ := h
    cases o with
    | none => exact .inr ⟨v, t, none, k, rfl, hv, ht, .inl ⟨rfl, q1 rfl⟩⟩
    | some p =>
      obtain ⟨n, js⟩ := p
      cases ek : inRg k 0 (10 ^ 30) with
      | false => exact .inr ⟨v, t, some (n, js), k, rfl, hv, ht, .inr ⟨n, js, rfl, .inl ⟨ek, q2 n js rfl ek⟩⟩⟩
      | true =>
        by_cases es : 720 < spanN js
        · exact .inr ⟨v, t, some (n, js), k, rfl, hv, ht, .inr ⟨n, js, rfl, .inr ⟨ek, es, q3 n js rfl ek es⟩⟩⟩
        · exact .inl (q4 n js rfl ek (by omega) E)
theorem okx_alive {C CL CN CY f : Addr} {fd : FuncData} {sp0 sp1 : Sp} (F : Fun K "alive" "alive" s_alive f fd) (F0 : FnOk P w K mg base CX0 6 f fd ["lot", "moment"] sp0) (hx_standings : HasX P w K mg base 5 "standings" ["lot", "moment"] (spTwoX K C CL CN CY sp1)) :
    FnOk P w K mg base (L2.CX P w) 6 f fd ["lot", "moment"] (spTwoX K C CL CN CY sp0) := by
  refine FnOk.both (spE := fun vs H Q E => ∃ (v t : V) (o : Option (Nat × List Job)) (k : Option Int), vs = [v, t] ∧ LotOr K C H v o ∧ KindV K H t k ∧ ((o = none ∧ Raise1 CL "given" v H E) ∨ ∃ n js, o = some (n, js) ∧ ((inRg k 0 (10 ^ 30) = false ∧ Raise1 CN "given" t H E) ∨ (inRg k 0 (10 ^ 30) = true ∧ 720 < spanN js ∧ Raise1 CY "limit" (.int 720) H E)))) F0 ?_ fun vs H Q E h => ?_
  · refine F.okX sc_alive (fun vs H Q E h => ?_) (fun cdv A outer s H vs Q E hr h => ?_)
    · obtain ⟨v, t, o, k, rfl, _⟩ := h; rfl
    obtain ⟨v, t, o, k, rfl, hv, ht, h⟩ := h
    have tk := takes_of (X := cxOf (L2.CX P w) P w K mg base ["lot", "moment", "told", "walk", "standing"] "alive" (defScope s_alive) f cdv A outer s H E) (E := E) rfl rfl rfl rfl
    refine ⟨_, pss_stop (ps_set (i := 2) sc_alive.nd rfl (.inl rfl) (pe_x hx_standings (hr.mono (by decide)) tk (pa_cons (pv 0) (pa_cons (pv 1) pa_nil)))), ?_⟩
    rcases h with ⟨rfl, q⟩ | ⟨n, js, rfl, ⟨ek, q⟩ | ⟨ek, es, q⟩⟩
    · exact ⟨_, rfl, _, rfl, v, t, none, k, rfl, hv, ht, (fun _ => q), (fun _ _ z => by cases z), (fun _ _ z => by cases z), fun _ _ z => by cases z⟩
    · exact ⟨_, rfl, _, rfl, v, t, some (n, js), k, rfl, hv, ht, (fun z => by cases z), (fun _ _ _ _ => q), (fun _ _ _ z => by rw [ek] at z; cases z), fun _ _ _ z => by rw [ek] at z; cases z⟩
    · exact ⟨_, rfl, _, rfl, v, t, some (n, js), k, rfl, hv, ht, (fun z => by cases z), (fun _ _ _ z => by rw [ek] at z; cases z), (fun _ _ _ _ _ => q), fun _ _ z _ z2 => by cases z; omega⟩
  · obtain ⟨v, t, o, k, rfl, hv, ht, q1, q2, q3, q4⟩ := h
    cases o with
    | none => exact .inr ⟨v, t, none, k, rfl, hv, ht, .inl ⟨rfl, q1 rfl⟩⟩
    | some p =>
      obtain ⟨n, js⟩ := p
      cases ek : inRg k 0 (10 ^ 30) with
      | false => exact .inr ⟨v, t, some (n, js), k, rfl, hv, ht, .inr ⟨n, js, rfl, .inl ⟨ek, q2 n js rfl ek⟩⟩⟩
      | true =>
        by_cases es : 720 < spanN js
        · exact .inr ⟨v, t, some (n, js), k, rfl, hv, ht, .inr ⟨n, js, rfl, .inr ⟨ek, es, q3 n js rfl ek es⟩⟩⟩
        · exact .inl (q4 n js rfl ek (by omega) E)
theorem okx_choices {C CL CN CS CY f : Addr} {fd : FuncData} {sp0 : Sp} (F : Fun K "choices" "choices" s_choices f fd) (F0 : FnOk P w K mg base CX0 6 f fd ["lot", "moment", "standing"] sp0) (hx_check_lot : HasX P w K mg base 3 "check_lot" ["lot"] (spCheckLotX K C CL)) (hx_check_moment : HasX P w K mg base 4 "check_moment" ["moment"] (spCheckFarX K CN 0)) (hx_check_standing : HasX P w K mg base 4 "check_standing" ["lot", "moment", "standing"] (spCheckStandingX K C CS)) (hx_check_round : HasX P w K mg base 3 "check_round" ["lot"] (spCheckRoundX K C CY)) :
    FnOk P w K mg base (L2.CX P w) 6 f fd ["lot", "moment", "standing"] (spChoicesX K C CL CN CS CY sp0) := by
  refine FnOk.both (spE := fun vs H Q E => ∃ (v t u : V) (o : Option (Nat × List Job)) (k : Option Int) (r : Option PyData), vs = [v, t, u] ∧ LotOr K C H v o ∧ KindV K H t k ∧ AnyV K H u r ∧ (∀ n js, o = some (n, js) → Good 16 js ∧ js.length ≤ 6) ∧ ((o = none ∧ Raise1 CL "given" v H E) ∨ ∃ n js, o = some (n, js) ∧ ((inRg k 0 (10 ^ 30) = false ∧ Raise1 CN "given" t H E) ∨ ∃ z, k = some z ∧ inRg k 0 (10 ^ 30) = true ∧ ((stB js z r = false ∧ Raise1 CS "given" u H E) ∨ (stB js z r = true ∧ 720 < spanN js ∧ ∀ H', Same H H' → Raise1 CY "limit" (.int 720) H' E))))) F0 ?_ fun vs H Q E h => ?_
  · refine F.okX sc_choices (fun vs H Q E h => ?_) (fun cdv A outer s H vs Q E hr h => ?_)
    · obtain ⟨v, t, u, o, k, r, rfl, _⟩ := h; rfl
    obtain ⟨v, t, u, o, k, r, rfl, hv, ht, hu, hG, h⟩ := h
    have tk := takes_of (X := cxOf (L2.CX P w) P w K mg base ["lot", "moment", "standing", "crews", "crew"] "choices" (defScope s_choices) f cdv A outer s H E) (E := E) rfl rfl rfl rfl
    rcases h with ⟨rfl, q⟩ | ⟨n, js, rfl, ⟨ek, q⟩ | ⟨z, rfl, ek, ⟨es, q⟩ | ⟨es, e7, q⟩⟩⟩
    · exact ⟨_, pss_stop (ps_expr (pe_x hx_check_lot (hr.mono (by decide)) tk (pa_cons (pv 0) pa_nil))), _, rfl, v, none, rfl, hv, (fun z => by cases z), fun _ => q⟩
    · exact ⟨_, pss_cons (ps_expr (pe_x hx_check_lot (hr.mono (by decide)) tk (pa_cons (pv 0) pa_nil))) (pss_stop (ps_expr (pe_x hx_check_moment (hr.mono (by decide)) tk (pa_cons (pv 1) pa_nil)))), _, rfl, v, some (n, js), rfl, hv, (fun _ => ⟨_, rfl, t, k, rfl, ht, (fun z => by rw [ek] at z; cases z), fun _ => q⟩), fun z => by cases z⟩
    · obtain ⟨a, rfl, L⟩ := id hv
      obtain ⟨G, l6⟩ := hG n js rfl
      cases (show t = .int z from ht)
      exact ⟨_, pss_cons (ps_expr (pe_x hx_check_lot (hr.mono (by decide)) tk (pa_cons (pv 0) pa_nil))) (pss_cons (ps_expr (pe_x hx_check_moment (hr.mono (by decide)) tk (pa_cons (pv 1) pa_nil))) (pss_stop (ps_expr (pe_x hx_check_standing (hr.mono (by decide)) tk (pa_cons (pv 0) (pa_cons (pv 1) (pa_cons (pv 2) pa_nil))))))), _, rfl, _, some (n, js), rfl, hv, (fun _ => ⟨_, rfl, _, some z, rfl, ht, (fun _ => ⟨_, rfl, _, rfl, _, rfl, a, n, js, z, u, r, rfl, L, G, l6, hu, (fun z => by rw [es] at z; cases z), fun _ => q⟩), fun z => by rw [ek] at z; cases z⟩), fun z => by cases z⟩
    · obtain ⟨a, rfl, L⟩ := id hv
      obtain ⟨G, l6⟩ := hG n js rfl
      cases (show t = .int z from ht)
      exact ⟨_, pss_cons (ps_expr (pe_x hx_check_lot (hr.mono (by decide)) tk (pa_cons (pv 0) pa_nil))) (pss_cons (ps_expr (pe_x hx_check_moment (hr.mono (by decide)) tk (pa_cons (pv 1) pa_nil))) (pss_cons (ps_expr (pe_x hx_check_standing (hr.mono (by decide)) tk (pa_cons (pv 0) (pa_cons (pv 1) (pa_cons (pv 2) pa_nil))))) (pss_stop (ps_expr (pe_x hx_check_round (hr.mono (by decide)) tk (pa_cons (pv 0) pa_nil)))))), _, rfl, _, some (n, js), rfl, hv, (fun _ => ⟨_, rfl, _, some z, rfl, ht, (fun _ => ⟨_, rfl, _, rfl, _, rfl, a, n, js, z, u, r, rfl, L, G, l6, hu, (fun _ H' s' => ⟨_, rfl, a, n, js, rfl, L.mono s', (fun z => by omega), fun _ => q H' s'⟩), fun z => by rw [es] at z; cases z⟩), fun z => by rw [ek] at z; cases z⟩), fun z => by cases z⟩
  · obtain ⟨v, t, u, o, k, r, rfl, hv, ht, hu, hG, q1, q2, q3, q4, q5⟩ := h
    cases o with
    | none => exact .inr ⟨v, t, u, none, k, r, rfl, hv, ht, hu, hG, .inl ⟨rfl, q1 rfl⟩⟩
    | some p =>
      obtain ⟨n, js⟩ := p
      cases ek : inRg k 0 (10 ^ 30) with
      | false => exact .inr ⟨v, t, u, some (n, js), k, r, rfl, hv, ht, hu, hG, .inr ⟨n, js, rfl, .inl ⟨ek, q2 n js rfl ek⟩⟩⟩
      | true =>
        obtain ⟨z, rfl, z1, z2⟩ := inRg_is ek
        cases es : stB js z r with
        | false => exact .inr ⟨v, t, u, some (n, js), some z, r, rfl, hv, ht, hu, hG, .inr ⟨n, js, rfl, .inr ⟨z, rfl, ek, .inl ⟨es, q3 n js z rfl rfl ek es⟩⟩⟩⟩
        | true =>
          by_cases e7 : 720 < spanN js
          · exact .inr ⟨v, t, u, some (n, js), some z, r, rfl, hv, ht, hu, hG, .inr ⟨n, js, rfl, .inr ⟨z, rfl, ek, .inr ⟨es, e7, q4 n js z rfl rfl ek es e7⟩⟩⟩⟩
          · exact .inl (q5 n js z rfl rfl ek es (by omega) E)
end
end Ts
namespace Ts
open PySem PySem.Spec PyProof.Rows L2 L2H LamX
section
variable {P : Program} {w : World} {K : PySem.W.Frag} {mg : Str → Option Value} {base : Heap}
theorem has_bases {c : Cls11} {b : Bas3} (D : DefAt K mg "_law_bases" s__law_bases) (B : Blt0 mg) (N : ErrN mg c b) : HasP P w K mg base 1 "_law_bases" ["_law_e"] (spBases K c b) := by
  refine D.hasP (fun _ _ _ _ _ _ us hl => match us, hl with | [_], _ => rfl) fun f fd F => fun_p F sc__law_bases (fun p vs H Q E h => ?_) (fun cdv A outer s H vs Q p hr h => ?_)
  · obtain ⟨C, fs, i, rfl, _⟩ := h; rfl
  obtain ⟨C, fs, i, rfl, hK, hE, hI, q⟩ := h
  have hp : p ∈ (cxH CX0 P w K mg base ["_law_e", "_law_own", "_law_plain"] "_law_bases" (defScope s__law_bases) f cdv A outer s H E0 p).pn := List.mem_singleton.mpr rfl
  refine ⟨_, (pss_cons (ps_set (i := 1) sc__law_bases.nd rfl (.inl rfl) (pe_lst (pa_cons (pe_callB (call_isP hp) (by rfl) B.zisinstance (by decide +kernel) (pa_cons (pv 0) (pa_cons (pe_gref N.WrongValue) pa_nil))) (pa_cons (pe_callB (call_isP hp) (by rfl) B.zisinstance (by decide +kernel) (pa_cons (pv 0) (pa_cons (pe_gref N.WrongName) pa_nil))) (pa_cons (pe_callB (call_isP hp) (by rfl) B.zisinstance (by decide +kernel) (pa_cons (pv 0) (pa_cons (pe_gref N.NoAnswer) pa_nil))) pa_nil)))))
      (pss_cons (ps_set (i := 2) sc__law_bases.nd rfl (.inl rfl) (pe_lst (pa_cons (pe_callB (call_isP hp) (by rfl) B.zisinstance (by decide +kernel) (pa_cons (pv 0) (pa_cons (pe_ty "ValueError" N.zValueError) pa_nil))) (pa_cons (pe_callB (call_isP hp) (by rfl) B.zisinstance (by decide +kernel) (pa_cons (pv 0) (pa_cons (pe_ty "LookupError" N.zLookupError) pa_nil))) (pa_cons (pe_callB (call_isP hp) (by rfl) B.zisinstance (by decide +kernel) (pa_cons (pv 0) (pa_cons (pe_ty "ArithmeticError" N.zArithmeticError) pa_nil))) pa_nil)))))
      (pss_one (ps_ret (pe_ifExp (pt_cmpR (op_eqD (hu64H hr)) (pv 1) (pv 2) (nomark _)) (pv 1) (pe_lst pa_nil)))))), ?_⟩
  refine ⟨_, rfl, _, _, _, C, fs, rfl, (fun _ h => h), hK, hE, hI.bv, _, rfl, _, _, _, C, fs, rfl, (fun _ h => h), hK, hE, hI.bw, _, rfl, _, _, _, C, fs, rfl, (fun _ h => h), hK, hE, hI.bx, by show 3 ≤ sizeLine; decide, fun p1 hp1 => ?_⟩
  have s1 : Same H (upd H p1 (.lst ((basB i).map V.bl))) := same_new hp1
  have e1 : (upd H p1 (.lst ((basB i).map V.bl))) p1 = some (.lst ((basB i).map V.bl)) := upd_same
  have hE1 := hE.mono s1
  refine ⟨_, rfl, _, _, _, C, fs, rfl, (fun _ h => h), hK, hE1, hI.pv, _, rfl, _, _, _, C, fs, rfl, (fun _ h => h), hK, hE1, hI.pw, _, rfl, _, _, _, C, fs, rfl, (fun _ h => h), hK, hE1, hI.px, by show 3 ≤ sizeLine; decide, fun p2 hp2 => ?_⟩
  have s2 : Same H (upd (upd H p1 (.lst ((basB i).map V.bl))) p2 (.lst ((basB i).map V.bl))) := s1.trans (same_new hp2)
  have e2 : (upd (upd H p1 (.lst ((basB i).map V.bl))) p2 (.lst ((basB i).map V.bl))) p1 = some (.lst ((basB i).map V.bl)) := same_new hp2 _ _ e1
  have d2 : ∀ {H' : Hp} {a : Addr}, H' a = some (.lst ((basB i).map V.bl)) → Dp K H' (.ref a) (.list [.bool (decide (i < 8)), .bool (decide (i = 8)), .bool (decide (8 < i))]) := fun e => .lst (SqL.of e) (.cons (.bl _) (.cons (.bl _) (.cons (.bl _) .nil)))
  refine ⟨_, rfl, _, rfl, _, _, d2 e2, d2 upd_same, shaped_b3 _ _ _, shaped_b3 _ _ _, _, rfl, ?_⟩
  rw [eqv_b3]
  exact iteT ⟨_, rfl, q p1 _ s2 e2⟩
theorem has_class {c : Cls11} {b : Bas3} (D : DefAt K mg "_law_class" s__law_class) (B : Blt0 mg) (N : ErrN mg c b) (h__law_bases : HasP P w K mg base 1 "_law_bases" ["_law_e"] (spBases K c b)) : HasP P w K mg base 2 "_law_class" ["_law_e"] (spClass K c b) := by
  refine D.hasP (fun _ _ _ _ _ _ us hl => match us, hl with | [_], _ => rfl) fun f fd F => fun_p F sc__law_class (fun p vs H Q E h => ?_) (fun cdv A outer s H vs Q p hr h => ?_)
  · obtain ⟨C, fs, i, t, rfl, _⟩ := h; rfl
  obtain ⟨C, fs, i, t, rfl, hK, hE, hI, ht, q⟩ := h
  have hp : p ∈ (cxH CX0 P w K mg base ["_law_e", "_law_marks", "_law_at", "_law_terms"] "_law_class" (defScope s__law_class) f cdv A outer s H E0 p).pn := List.mem_singleton.mpr rfl
  refine ⟨_, (pss_cons (ps_set (i := 1) sc__law_class.nd rfl (.inl rfl) (pe_lst (pa_cons (pe_callB (call_isP hp) (by rfl) B.zisinstance (by decide +kernel) (pa_cons (pv 0) (pa_cons (pe_gref N.InvalidText) pa_nil))) (pa_cons (pe_callB (call_isP hp) (by rfl) B.zisinstance (by decide +kernel) (pa_cons (pv 0) (pa_cons (pe_gref N.InvalidNumber) pa_nil))) (pa_cons (pe_callB (call_isP hp) (by rfl) B.zisinstance (by decide +kernel) (pa_cons (pv 0) (pa_cons (pe_gref N.InvalidName) pa_nil))) pa_nil)))))
      (pss_cons (ps_set (i := 1) sc__law_class.nd rfl (.inl rfl) (pe_op op_cat (pv 1) (pe_lst (pa_cons (pe_callB (call_isP hp) (by rfl) B.zisinstance (by decide +kernel) (pa_cons (pv 0) (pa_cons (pe_gref N.InvalidShare) pa_nil))) (pa_cons (pe_callB (call_isP hp) (by rfl) B.zisinstance (by decide +kernel) (pa_cons (pv 0) (pa_cons (pe_gref N.InvalidStanding) pa_nil))) (pa_cons (pe_callB (call_isP hp) (by rfl) B.zisinstance (by decide +kernel) (pa_cons (pv 0) (pa_cons (pe_gref N.NotALot) pa_nil))) pa_nil))))))
      (pss_cons (ps_set (i := 1) sc__law_class.nd rfl (.inl rfl) (pe_op op_cat (pv 1) (pe_lst (pa_cons (pe_callB (call_isP hp) (by rfl) B.zisinstance (by decide +kernel) (pa_cons (pv 0) (pa_cons (pe_gref N.InvalidLog) pa_nil))) (pa_cons (pe_callB (call_isP hp) (by rfl) B.zisinstance (by decide +kernel) (pa_cons (pv 0) (pa_cons (pe_gref N.InvalidForms) pa_nil))) (pa_cons (pe_callB (call_isP hp) (by rfl) B.zisinstance (by decide +kernel) (pa_cons (pv 0) (pa_cons (pe_gref N.UnknownName) pa_nil))) pa_nil))))))
      (pss_cons (ps_set (i := 1) sc__law_class.nd rfl (.inl rfl) (pe_op op_cat (pv 1) (pe_lst (pa_cons (pe_callB (call_isP hp) (by rfl) B.zisinstance (by decide +kernel) (pa_cons (pv 0) (pa_cons (pe_gref N.TooMany) pa_nil))) (pa_cons (pe_callB (call_isP hp) (by rfl) B.zisinstance (by decide +kernel) (pa_cons (pv 0) (pa_cons (pe_gref N.Alone) pa_nil))) pa_nil)))))
      (pss_cons (ps_if (pt_cmpR op_ne (pe_bm PySem.F.plainAttrs_list PySem.F.slot_list_count PySem.F.type_list_count mt_countB (pv 1) (pa_cons pe_bl pa_nil)) pe_int (nomark _)) (pss_one (ps_ret pe_str)) pss_nil)
      (pss_cons (ps_set (i := 2) sc__law_class.nd rfl (.inl rfl) (pe_bm PySem.F.plainAttrs_list PySem.F.slot_list_index PySem.F.type_list_index mt_indexB (pv 1) (pa_cons pe_bl pa_nil)))
      (pss_cons (ps_if (pt_cmpR (op_neD (hu64H hr)) (pe_p h__law_bases hp (hr.mono (by decide)) (pa_cons (pv 0) pa_nil)) (pe_lst (pa_cons (pe_cmpR op_lt (pv 2) pe_int (nomark _)) (pa_cons (pe_cmpR op_eq (pv 2) pe_int (nomark _)) (pa_cons (pe_cmpR op_gt (pv 2) pe_int (nomark _)) pa_nil)))) (nomark _)) (pss_one (ps_ret pe_str)) pss_nil)
      (pss_cons (ps_set (i := 3) sc__law_class.nd rfl (.inl rfl) (pe_lst (pa_cons pe_str (pa_cons pe_str (pa_cons pe_str (pa_cons pe_str (pa_cons pe_str (pa_cons pe_str (pa_cons pe_str (pa_cons pe_str (pa_cons pe_str (pa_cons pe_str (pa_cons pe_str pa_nil)))))))))))))
      (pss_one (ps_ret (pe_ix ix_list (pv 3) (pv 2) (fun _ _ => rfl)))))))))))), ?_⟩
  refine ⟨_, rfl, _, _, _, C, fs, rfl, (fun _ h => h), hK, hE, hI.k 0 _ rfl, _, rfl, _, _, _, C, fs, rfl, (fun _ h => h), hK, hE, hI.k 1 _ rfl, _, rfl, _, _, _, C, fs, rfl, (fun _ h => h), hK, hE, hI.k 2 _ rfl, by show 3 ≤ sizeLine; decide, fun p1 hp1 => ?_⟩
  have s1 : Same H (upd H p1 (.lst [.bl (isB i 0), .bl (isB i 1), .bl (isB i 2)])) := same_new hp1
  have e1 : (upd H p1 (.lst [.bl (isB i 0), .bl (isB i 1), .bl (isB i 2)])) p1 = some (.lst [.bl (isB i 0), .bl (isB i 1), .bl (isB i 2)]) := upd_same
  change tSeq _ _ _ _ (upd H p1 (.lst [.bl (isB i 0), .bl (isB i 1), .bl (isB i 2)]))
  revert s1 e1
  generalize upd H p1 (.lst [.bl (isB i 0), .bl (isB i 1), .bl (isB i 2)]) = H1
  intro s1 e1
  have hE1 := hE.mono s1
  refine ⟨_, rfl, _, rfl, _, _, _, C, fs, rfl, (fun _ h => h), hK, hE1, hI.k 3 _ rfl, _, rfl, _, _, _, C, fs, rfl, (fun _ h => h), hK, hE1, hI.k 4 _ rfl, _, rfl, _, _, _, C, fs, rfl, (fun _ h => h), hK, hE1, hI.k 5 _ rfl, by show 3 ≤ sizeLine; decide, fun q2 hq2 => ?_⟩
  refine ⟨_, _, _, _, rfl, rfl, same_new hq2 _ _ e1, upd_same, by show 6 ≤ sizeLine; decide, fun p2 hp2 => ?_⟩
  have s2 : Same H (upd (upd H1 q2 (.lst [.bl (isB i 3), .bl (isB i 4), .bl (isB i 5)])) p2 (.lst [.bl (isB i 0), .bl (isB i 1), .bl (isB i 2), .bl (isB i 3), .bl (isB i 4), .bl (isB i 5)])) := s1.trans ((same_new hq2).trans (same_new hp2))
  have e2 : (upd (upd H1 q2 (.lst [.bl (isB i 3), .bl (isB i 4), .bl (isB i 5)])) p2 (.lst [.bl (isB i 0), .bl (isB i 1), .bl (isB i 2), .bl (isB i 3), .bl (isB i 4), .bl (isB i 5)])) p2 = some (.lst [.bl (isB i 0), .bl (isB i 1), .bl (isB i 2), .bl (isB i 3), .bl (isB i 4), .bl (isB i 5)]) := upd_same
  change tSeq _ _ _ _ (upd (upd H1 q2 (.lst [.bl (isB i 3), .bl (isB i 4), .bl (isB i 5)])) p2 (.lst [.bl (isB i 0), .bl (isB i 1), .bl (isB i 2), .bl (isB i 3), .bl (isB i 4), .bl (isB i 5)]))
  revert s2 e2
  generalize upd (upd H1 q2 (.lst [.bl (isB i 3), .bl (isB i 4), .bl (isB i 5)])) p2 (.lst [.bl (isB i 0), .bl (isB i 1), .bl (isB i 2), .bl (isB i 3), .bl (isB i 4), .bl (isB i 5)]) = H2
  intro s2 e2
  have hE2 := hE.mono s2
  refine ⟨_, rfl, _, rfl, _, _, _, C, fs, rfl, (fun _ h => h), hK, hE2, hI.k 6 _ rfl, _, rfl, _, _, _, C, fs, rfl, (fun _ h => h), hK, hE2, hI.k 7 _ rfl, _, rfl, _, _, _, C, fs, rfl, (fun _ h => h), hK, hE2, hI.k 8 _ rfl, by show 3 ≤ sizeLine; decide, fun q3 hq3 => ?_⟩
  refine ⟨_, _, _, _, rfl, rfl, same_new hq3 _ _ e2, upd_same, by show 9 ≤ sizeLine; decide, fun p3 hp3 => ?_⟩
  have s3 : Same H (upd (upd H2 q3 (.lst [.bl (isB i 6), .bl (isB i 7), .bl (isB i 8)])) p3 (.lst [.bl (isB i 0), .bl (isB i 1), .bl (isB i 2), .bl (isB i 3), .bl (isB i 4), .bl (isB i 5), .bl (isB i 6), .bl (isB i 7), .bl (isB i 8)])) := s2.trans ((same_new hq3).trans (same_new hp3))
  have e3 : (upd (upd H2 q3 (.lst [.bl (isB i 6), .bl (isB i 7), .bl (isB i 8)])) p3 (.lst [.bl (isB i 0), .bl (isB i 1), .bl (isB i 2), .bl (isB i 3), .bl (isB i 4), .bl (isB i 5), .bl (isB i 6), .bl (isB i 7), .bl (isB i 8)])) p3 = some (.lst [.bl (isB i 0), .bl (isB i 1), .bl (isB i 2), .bl (isB i 3), .bl (isB i 4), .bl (isB i 5), .bl (isB i 6), .bl (isB i 7), .bl (isB i 8)]) := upd_same
  change tSeq _ _ _ _ (upd (upd H2 q3 (.lst [.bl (isB i 6), .bl (isB i 7), .bl (isB i 8)])) p3 (.lst [.bl (isB i 0), .bl (isB i 1), .bl (isB i 2), .bl (isB i 3), .bl (isB i 4), .bl (isB i 5), .bl (isB i 6), .bl (isB i 7), .bl (isB i 8)]))
  revert s3 e3
  generalize upd (upd H2 q3 (.lst [.bl (isB i 6), .bl (isB i 7), .bl (isB i 8)])) p3 (.lst [.bl (isB i 0), .bl (isB i 1), .bl (isB i 2), .bl (isB i 3), .bl (isB i 4), .bl (isB i 5), .bl (isB i 6), .bl (isB i 7), .bl (isB i 8)]) = H3
  intro s3 e3
  have hE3 := hE.mono s3
  refine ⟨_, rfl, _, rfl, _, _, _, C, fs, rfl, (fun _ h => h), hK, hE3, hI.k 9 _ rfl, _, rfl, _, _, _, C, fs, rfl, (fun _ h => h), hK, hE3, hI.k 10 _ rfl, by show 2 ≤ sizeLine; decide, fun q4 hq4 => ?_⟩
  refine ⟨_, _, _, _, rfl, rfl, same_new hq4 _ _ e3, upd_same, by show 11 ≤ sizeLine; decide, fun p4 hp4 => ?_⟩
  have s4 : Same H (upd (upd H3 q4 (.lst [.bl (isB i 9), .bl (isB i 10)])) p4 (.lst [.bl (isB i 0), .bl (isB i 1), .bl (isB i 2), .bl (isB i 3), .bl (isB i 4), .bl (isB i 5), .bl (isB i 6), .bl (isB i 7), .bl (isB i 8), .bl (isB i 9), .bl (isB i 10)])) := s3.trans ((same_new hq4).trans (same_new hp4))
  have e4 : (upd (upd H3 q4 (.lst [.bl (isB i 9), .bl (isB i 10)])) p4 (.lst [.bl (isB i 0), .bl (isB i 1), .bl (isB i 2), .bl (isB i 3), .bl (isB i 4), .bl (isB i 5), .bl (isB i 6), .bl (isB i 7), .bl (isB i 8), .bl (isB i 9), .bl (isB i 10)])) p4 = some (.lst [.bl (isB i 0), .bl (isB i 1), .bl (isB i 2), .bl (isB i 3), .bl (isB i 4), .bl (isB i 5), .bl (isB i 6), .bl (isB i 7), .bl (isB i 8), .bl (isB i 9), .bl (isB i 10)]) := upd_same
  change tSeq _ _ _ _ (upd (upd H3 q4 (.lst [.bl (isB i 9), .bl (isB i 10)])) p4 (.lst [.bl (isB i 0), .bl (isB i 1), .bl (isB i 2), .bl (isB i 3), .bl (isB i 4), .bl (isB i 5), .bl (isB i 6), .bl (isB i 7), .bl (isB i 8), .bl (isB i 9), .bl (isB i 10)]))
  revert s4 e4
  generalize upd (upd H3 q4 (.lst [.bl (isB i 9), .bl (isB i 10)])) p4 (.lst [.bl (isB i 0), .bl (isB i 1), .bl (isB i 2), .bl (isB i 3), .bl (isB i 4), .bl (isB i 5), .bl (isB i 6), .bl (isB i 7), .bl (isB i 8), .bl (isB i 9), .bl (isB i 10)]) = H4
  intro s4 e4
  have hE4 := hE.mono s4
  have i11 := hI.i11
  have e4' : SqL K H4 p4 ((marksB i).map V.bl) := SqL.of e4
  refine ⟨_, rfl, .inl ⟨rfl, _, e4'⟩, p4, marksB i, rfl, rfl, e4', rfl, _, rfl, iteNS (by rw [marks_count i11]; rfl) ?_⟩
  refine ⟨_, rfl, .inl ⟨rfl, _, e4'⟩, p4, marksB i, i, rfl, rfl, e4', marks_at i11, fun m hm => marks_no i11 hm, ?_⟩
  refine ⟨_, rfl, C, fs, i, rfl, hK, hE4, hI, fun l H5 s5 e5 => ?_⟩
  refine ⟨_, rfl, _, _, rfl, rfl, _, rfl, rfl, _, rfl, _, _, rfl, rfl, by show 3 ≤ sizeLine; decide, fun p6 hp6 => ?_⟩
  have b1 : decide ((i : Int) < 8) = decide (i < 8) := decide_eq_decide.mpr (by omega)
  have b2 : decide (V.int (i : Int) = V.int 8) = decide (i = 8) := decide_eq_decide.mpr ⟨fun z => by have := V.int.inj z; omega, fun z => by rw [z]; rfl⟩
  have b3 : decide ((8 : Int) < (i : Int)) = decide (8 < i) := decide_eq_decide.mpr (by omega)
  have s6 : Same H5 (upd H5 p6 (.lst [.bl (decide ((i : Int) < 8)), .bl (decide (V.int (i : Int) = V.int 8)), .bl (decide ((8 : Int) < (i : Int)))])) := same_new hp6
  have e6 : (upd H5 p6 (.lst [.bl (decide ((i : Int) < 8)), .bl (decide (V.int (i : Int) = V.int 8)), .bl (decide ((8 : Int) < (i : Int)))])) p6 = some (.lst ((basB i).map V.bl)) := by rw [upd_same, b1, b2, b3]; rfl
  have d2 : ∀ {H' : Hp} {a : Addr}, H' a = some (.lst ((basB i).map V.bl)) → Dp K H' (.ref a) (.list [.bool (decide (i < 8)), .bool (decide (i = 8)), .bool (decide (8 < i))]) := fun e => .lst (SqL.of e) (.cons (.bl _) (.cons (.bl _) (.cons (.bl _) .nil)))
  refine ⟨_, _, d2 (s6 _ _ e5), d2 e6, shaped_b3 _ _ _, shaped_b3 _ _ _, _, rfl, ?_⟩
  rw [eqv_b3]
  refine iteF ⟨by show 11 ≤ sizeLine; decide, fun p7 hp7 => ?_⟩
  refine ⟨_, rfl, _, rfl, p7, errWords.map V.str, (i : Int), .str t, rfl, rfl, SqL.of upd_same, atI_nat (by rw [List.getElem?_map, ht]; rfl), ?_⟩
  exact q _ (s4.trans (s5.trans (s6.trans (same_new hp7))))
end
end Ts
namespace Ts
open PySem PySem.Spec PyProof.Rows L2 L2H LamX
section
theorem heard_gives2 {ShE ShO : ShR} {X : Cx} {q : Str} {g : Addr} {cdg : Value} {c : Cls11} {b : Bas3} (N : ErrN X.mg c b) (B : Blt0 X.mg) (h__law_class : HasP X.prog X.w X.K X.mg X.base 2 "_law_class" ["_law_e"] (spClass X.K c b)) (RE : ReprR X.prog X.w X.K X.mg X.base true ShE) (RO : ReprR X.prog X.w X.K X.mg X.base false ShO) (hg : X.A.guards = some []) (hr : Room 6 X.A) :
    GivesTo X ["_law_act", "_law_back", "_law_e", "_law_term"] "_law_heard" (defScope s__law_heard) g cdg (defBody s__law_heard) "_law_act" q (TTheard2 X.K c b ShE ShO) := by
  obtain ⟨P, w, K, mg, base, A, N0, s0, H0, env, outer, stack, ex, fn, calm, pn0, xe0⟩ := X
  dsimp only at N B h__law_class RE RO hg hr
  intro f c' s H Q tl act hc h
  dsimp only at act
  have S := sc__law_heard
  have hr1 : RoomH 4 (A.deeper (envOfC "_law_heard" (defScope s__law_heard) s.heap.objs.size g cdg)) := RoomH.deeper (roomH_of (hr.mono (by decide))) _
  have hr1n : Room 4 (A.deeper (envOfC "_law_heard" (defScope s__law_heard) s.heap.objs.size g cdg)) := Room.deeper (hr.mono (by decide)) _
  have hg1 : (A.deeper (envOfC "_law_heard" (defScope s__law_heard) s.heap.objs.size g cdg)).guards = some [] := hg
  refine ⟨_, pss_cons (ps_try_tup3 (X := (cxOf C8.CX0 P w K mg base ["_law_act", "_law_back", "_law_e", "_law_term"] "_law_heard" (defScope s__law_heard) g cdg A stack s H C8.E0).nox) (i := 2) (tb := fun W D σ H1 => ∃ Ech : XK, (∀ cls d σ' H', Ech cls d H' → W cls d σ' H') ∧ ∃ Q' : VK, (∀ v H', Q' v H' → D.nx (σ.set 1 (some v)) H') ∧ σ[0]? = some (some (.ref f)) ∧ H1 c' = some (CodeO c' q) ∧ tl Ech H1 Q')
    (ts := fun a cls d D σ H1 => (σ.length = 4 → σ[2]? = some (some (.ref a))) ∧ ∃ (C : Addr) (i : Nat) (t sh : Str), cls = .ref C ∧ ExcK K C ∧ IsErr K c b C i ∧ errWords[i]? = some t ∧
      ((∃ (dd : Addr) (v : V), d = some dd ∧ H1 dd = some (.xd [(fieldOf i, v)]) ∧ i ≠ 10 ∧ PySem.W.findIn K (.ref C) (fieldOf i) = some none ∧ ShE H1 v sh) ∨ (d = none ∧ i = 10 ∧ sh = "")) ∧ ∀ (l : Addr) (H2 : Hp), Same H1 H2 → H2 l = some (.lst [.str t, .str sh]) → D.rt (.ref l) H2)
    rfl rfl S.nd rfl rfl ⟨rfl, by decide, .inl N.WrongValue⟩ ⟨rfl, by decide, .inl N.WrongName⟩ ⟨rfl, by decide, .inl N.NoAnswer⟩ (fun W pn xe tk po => ⟨fun pins s' σ H' D I ⟨Ech, hW, Q', hQ, h0, h1, h2⟩ => (pss_one (ps_set (i := 1) (te := fun σ H Q => ∃ Q' : VK, (∀ v H', Q' v H' → Q v H') ∧ σ[0]? = some (some (.ref f)) ∧ H c' = some (CodeO c' q) ∧ tl Ech H Q') S.nd rfl (.inl rfl) ⟨fun pins s σ H Q I ⟨Q', hQ, h0, h1, h2⟩ => thn ((act W pn xe Ech _ _ tk hW).run pins s σ H Q' I ⟨h0, h1, h2⟩) fun _ _ ⟨v, H2, I2, r2, q2⟩ => ⟨v, H2, I2, r2, hQ _ _ q2⟩⟩)).run pins s' σ H' D I ⟨Q', hQ, h0, h1, h2⟩⟩) (fun a oe cls d pn hz hf => ⟨fun pins s' σ H' D I hh => ?_⟩)) (pss_one (ps_ret (pe_lst (pa_cons pe_str (pa_cons (pe_callB (RO.rule _ rfl rfl rfl rfl rfl hg1 hr1 (fun _ => hr1n) (fun z => by cases z)) (by rfl) B.zrepr (by decide +kernel) (pa_cons (pv 1) pa_nil)) pa_nil))))), ?_⟩
  · obtain ⟨hl, C, i, t, sh, rfl, hK, hI, ht, hcs, q⟩ := hh
    have len := I.len
    have hr2 : RoomH 4 (((cxOf C8.CX0 P w K mg base ["_law_act", "_law_back", "_law_e", "_law_term"] "_law_heard" (defScope s__law_heard) g cdg A stack s H C8.E0).nox.suite a ((a, oe) :: pn))).A := ⟨hr1.dp, hr1.un⟩
    have hg2 : (((cxOf C8.CX0 P w K mg base ["_law_act", "_law_back", "_law_e", "_law_term"] "_law_heard" (defScope s__law_heard) g cdg A stack s H C8.E0).nox.suite a ((a, oe) :: pn))).A.guards = some [] := hg
    have hp : ((a, oe) : Addr × Obj) ∈ (((cxOf C8.CX0 P w K mg base ["_law_act", "_law_back", "_law_e", "_law_term"] "_law_heard" (defScope s__law_heard) g cdg A stack s H C8.E0).nox.suite a ((a, oe) :: pn))).pn := List.mem_cons_self
    obtain ⟨fs0, hE⟩ : ∃ fs, ErrAt H' (a, oe) C fs := by
      rcases hcs with ⟨dd, v, rfl, hx, _⟩ | ⟨rfl, _⟩
      · exact ⟨_, hf, .inl ⟨dd, hz, hx⟩⟩
      · exact ⟨[], hf, .inr ⟨hz, rfl⟩⟩
    refine PSs.run (X := ((cxOf C8.CX0 P w K mg base ["_law_act", "_law_back", "_law_e", "_law_term"] "_law_heard" (defScope s__law_heard) g cdg A stack s H C8.E0).nox.suite a ((a, oe) :: pn))) (t := ?tt) ?hh pins s' σ H' D I ?gg
    case hh => exact (pss_cons (ps_set (i := 3) sc__law_heard.nd rfl (.inl rfl) (pe_p h__law_class hp (hr2.mono (by decide)) (pa_cons (pv 2) pa_nil)))
      (pss_cons (ps_if (pt_cmpR op_in_seq (pv 3) (pe_lst (pa_cons pe_str (pa_cons pe_str pa_nil))) (by rfl)) (pss_one (ps_ret (pe_lst (pa_cons (pv 3) (pa_cons (pe_callB (RE.rule _ rfl rfl rfl rfl rfl hg2 hr2 (fun z => by cases z) (fun _ => ⟨_, hp⟩)) (by rfl) B.zrepr (by decide +kernel) (pa_cons (pe_err hp (pv 2)) pa_nil)) pa_nil))))) pss_nil)
      (pss_cons (ps_if (pt_cmpR op_eq (pv 3) pe_str (nomark _)) (pss_one (ps_ret (pe_lst (pa_cons (pv 3) (pa_cons (pe_callB (RE.rule _ rfl rfl rfl rfl rfl hg2 hr2 (fun z => by cases z) (fun _ => ⟨_, hp⟩)) (by rfl) B.zrepr (by decide +kernel) (pa_cons (pe_err hp (pv 2)) pa_nil)) pa_nil))))) pss_nil)
      (pss_one (ps_ret (pe_lst (pa_cons (pv 3) (pa_cons (pe_ifExp (pt_cmpR op_in_seq (pv 3) (pe_lst (pa_cons pe_str (pa_cons pe_str pa_nil))) (by rfl)) pe_str (pe_callB (RE.rule _ rfl rfl rfl rfl rfl hg2 hr2 (fun z => by cases z) (fun _ => ⟨_, hp⟩)) (by rfl) B.zrepr (by decide +kernel) (pa_cons (pe_err hp (pv 2)) pa_nil))) pa_nil))))))))
    have len4 : σ.length = 4 := len
    obtain ⟨w0, w1, w2, w3, rfl⟩ : ∃ w0 w1 w2 w3, σ = [w0, w1, w2, w3] := by
      match σ, len4 with
      | [w0, w1, w2, w3], _ => exact ⟨w0, w1, w2, w3, rfl⟩
    have e2 : w2 = some (.ref a) := Option.some.inj (hl rfl)
    subst e2
    refine ⟨_, rfl, C, _, i, t, rfl, hK, hE, hI, ht, fun H2 s2 => ?_⟩
    refine ⟨_, rfl, by show 2 ≤ sizeLine; decide, fun p1 hp1 => ?_⟩
    have s3 : Same H' (upd H2 p1 (.lst [.str "log", .str "forms"])) := s2.trans (same_new hp1)
    have e3 : (upd H2 p1 (.lst [.str "log", .str "forms"])) p1 = some (.lst [.str "log", .str "forms"]) := upd_same
    revert s3 e3
    generalize upd H2 p1 (.lst [.str "log", .str "forms"]) = H3
    intro s3 e3
    have fin : ∀ {H5 : Hp} (_ : Same H' H5) (l : Addr) (_ : H5 l = none), D.rt (.ref l) (upd H5 l (.lst [.str t, .str sh])) := fun s5 l hl => q l _ (s5.trans (same_new hl)) upd_same
    have i11 := hI.i11
    refine ⟨p1, _, rfl, .inl (SqL.of e3), rfl, rfl, _, rfl, ?_⟩
    by_cases c67 : i = 6 ∨ i = 7
    · rcases hcs with ⟨dd, v, rfl, hx, i10, no, hsh⟩ | ⟨_, e10, _⟩
      case inr => omega
      have hE3 : ErrAt H3 (a, oe) C [(fieldOf i, v)] := ErrAt.mono ⟨hf, .inl ⟨dd, hz, hx⟩⟩ s3
      have ft : fieldOf i = "index" := if_pos c67
      rw [ft] at hE3 no
      have et : inV (.str t) [.str "log", .str "forms"] = true := by
        rcases c67 with rfl | rfl
        · cases ht; decide
        · cases ht; decide
      rw [show (if false = true then !inV (.str t) [.str "log", .str "forms"] else inV (.str t) [.str "log", .str "forms"]) = true from et]
      exact iteT ⟨_, rfl, _, rfl, rfl, C, _, v, hK, no, hE3, rfl, v, sh, rfl, RE.mono hsh s3, by show 2 ≤ sizeLine; decide, fun l hl => fin s3 l hl⟩
    · have et : inV (.str t) [.str "log", .str "forms"] = false := by
        have go : ∀ i : Fin 11, ¬ (i.val = 6 ∨ i.val = 7) → ∀ t, errWords[i.val]? = some t → inV (.str t) [.str "log", .str "forms"] = false := by
          intro i hi t ht
          match i, hi, ht with
          | ⟨0, _⟩, _, ht => cases ht; decide
          | ⟨1, _⟩, _, ht => cases ht; decide
          | ⟨2, _⟩, _, ht => cases ht; decide
          | ⟨3, _⟩, _, ht => cases ht; decide
          | ⟨4, _⟩, _, ht => cases ht; decide
          | ⟨5, _⟩, _, ht => cases ht; decide
          | ⟨6, _⟩, hi, _ => exact absurd (.inl rfl) hi
          | ⟨7, _⟩, hi, _ => exact absurd (.inr rfl) hi
          | ⟨8, _⟩, _, ht => cases ht; decide
          | ⟨9, _⟩, _, ht => cases ht; decide
          | ⟨10, _⟩, _, ht => cases ht; decide
        exact go ⟨i, i11⟩ c67 t ht
      rw [show (if false = true then !inV (.str t) [.str "log", .str "forms"] else inV (.str t) [.str "log", .str "forms"]) = false from et]
      refine iteF ⟨_, rfl, rfl, _, rfl, ?_⟩
      by_cases c9 : i = 9
      · rcases hcs with ⟨dd, v, rfl, hx, i10, no, hsh⟩ | ⟨_, e10, _⟩
        case inr => omega
        have hE3 : ErrAt H3 (a, oe) C [(fieldOf i, v)] := ErrAt.mono ⟨hf, .inl ⟨dd, hz, hx⟩⟩ s3
        have ft : fieldOf i = "limit" := by unfold fieldOf; rw [if_neg c67, if_pos c9]
        rw [ft] at hE3 no
        have et : decide (V.str t = V.str "many") = true := by subst c9; cases ht; exact decide_eq_true rfl
        rw [et]
        exact iteT ⟨_, rfl, _, rfl, rfl, C, _, v, hK, no, hE3, rfl, v, sh, rfl, RE.mono hsh s3, by show 2 ≤ sizeLine; decide, fun l hl => fin s3 l hl⟩
      · rcases hcs with ⟨dd, v, rfl, hx, i10, no, hsh⟩ | ⟨_, e10, esh⟩
        case inr =>
          subst e10 esh
          cases ht
          rw [show decide (V.str "alone" = V.str "many") = false by decide]
          refine iteF ⟨_, rfl, _, rfl, by show 2 ≤ sizeLine; decide, fun p4 hp4 => ?_⟩
          have s4 : Same H' (upd H3 p4 (.lst [.str "odd", .str "alone"])) := s3.trans (same_new hp4)
          refine ⟨p4, _, rfl, .inl (SqL.of upd_same), rfl, rfl, _, rfl, ?_⟩
          rw [show (if false = true then !inV (.str "alone") [.str "odd", .str "alone"] else inV (.str "alone") [.str "odd", .str "alone"]) = true by decide]
          exact iteT ⟨by show 2 ≤ sizeLine; decide, fun l hl => fin s4 l hl⟩
        have hE3 : ErrAt H3 (a, oe) C [(fieldOf i, v)] := ErrAt.mono ⟨hf, .inl ⟨dd, hz, hx⟩⟩ s3
        have ft : fieldOf i = "given" := by unfold fieldOf; rw [if_neg c67, if_neg c9]
        rw [ft] at hE3 no
        have et : decide (V.str t = V.str "many") = false ∧ inV (.str t) [.str "odd", .str "alone"] = false := by
          have go : ∀ i : Fin 11, i.val ≠ 9 → i.val ≠ 10 → ∀ t, errWords[i.val]? = some t → decide (V.str t = V.str "many") = false ∧ inV (.str t) [.str "odd", .str "alone"] = false := by
            intro i hi h10 t ht
            match i, hi, h10, ht with
            | ⟨0, _⟩, _, _, ht => cases ht; decide
            | ⟨1, _⟩, _, _, ht => cases ht; decide
            | ⟨2, _⟩, _, _, ht => cases ht; decide
            | ⟨3, _⟩, _, _, ht => cases ht; decide
            | ⟨4, _⟩, _, _, ht => cases ht; decide
            | ⟨5, _⟩, _, _, ht => cases ht; decide
            | ⟨6, _⟩, _, _, ht => cases ht; decide
            | ⟨7, _⟩, _, _, ht => cases ht; decide
            | ⟨8, _⟩, _, _, ht => cases ht; decide
            | ⟨9, _⟩, hi, _, _ => exact absurd rfl hi
            | ⟨10, _⟩, _, h10, _ => exact absurd rfl h10
          exact go ⟨i, i11⟩ c9 i10 t ht
        rw [et.1]
        refine iteF ⟨_, rfl, _, rfl, by show 2 ≤ sizeLine; decide, fun p4 hp4 => ?_⟩
        have s4 : Same H' (upd H3 p4 (.lst [.str "odd", .str "alone"])) := s3.trans (same_new hp4)
        refine ⟨p4, _, rfl, .inl (SqL.of upd_same), rfl, rfl, _, rfl, ?_⟩
        rw [show (if false = true then !inV (.str t) [.str "odd", .str "alone"] else inV (.str t) [.str "odd", .str "alone"]) = false from et.2]
        exact iteF ⟨_, rfl, rfl, C, _, v, hK, no, hE3.mono (same_new hp4), rfl, v, sh, rfl, RE.mono hsh s4, by show 2 ≤ sizeLine; decide, fun l hl => fin s4 l hl⟩
  · obtain ⟨E', Q', ht, hE', hQ'⟩ := h
    refine ⟨E', fun cls d σ' H' hx => ?_, Q', fun v H' hq => ?_, rfl, hc, ht⟩
    · obtain ⟨C, i, t, sh, rfl, hK, hI, ht, hm, hcs, q⟩ := hE' _ _ _ hx
      refine ⟨hm, fun a _ => ⟨fun hl => ?_, C, i, t, sh, rfl, hK, hI, ht, hcs, q⟩⟩
      rw [List.length_set] at hl
      rw [List.getElem?_set_self (by omega)]
    · obtain ⟨sh, hsh, q⟩ := hQ' _ _ hq
      exact ⟨_, rfl, v, sh, rfl, hsh, by show 2 ≤ sizeLine; decide, fun l hl => q l _ (same_new hl) upd_same⟩
/-- _law_heard(lambda: body) -/
theorem pe_heard2 {ShE ShO : ShR} {X : Cx} {c : Cls11} {b : Bas3} {T : List (Addr × Str)} {cd PT : Addr} {k : Nat} {t : XK → TE} {params : Arguments} {body : Expr} {scope : Scope} {p lpos pos : Pos}
    (D : DefAt X.K X.mg "_law_heard" s__law_heard) (N : ErrN X.mg c b) (B : Blt0 X.mg) (hcl : HasP X.prog X.w X.K X.mg X.base 2 "_law_class" ["_law_e"] (spClass X.K c b)) (RE : ReprR X.prog X.w X.K X.mg X.base true ShE) (RO : ReprR X.prog X.w X.K X.mg X.base false ShO) (hg : X.A.guards = some []) (hr : Room (k + 2) X.A) (h6 : 6 ≤ k + 2)
    (TB : TabB X.base X.mg cd PT) (hcode : X.env.code = .ref cd) (hT : T = [(PT, X.env.qual ++ "<lambda>")]) (L : LamS X.env.scope scope)
    (hbody : ∀ (A : Around) (outer : List Env) (s : Shared) (H : Hp) (E : XK) (f c' : Addr), Room k (A.deeper (lamEnv X scope s.heap.objs.size f c')) → PE (lamCx X A outer s H E scope f c') body (t E))
    (hdef : defaultsOf params X.env = ([], []) := by rfl) (hbind : ∀ (q : Str) (cl : List (Str × Addr)) (pm cv ctv : Value), bindArgs (PySem.W.kla_fn "<lambda>" q params body scope cl pm cv ctv) ⟨[], []⟩ = pure [] := by intros; rfl) (hgl : Gl X "_law_heard" := by rfl) :
    PE X (.Call (.Name "_law_heard" p) [.Lambda params body scope lpos] [] pos) (tLam T (TTheard2 X.K c b ShE ShO) t) := by
  obtain ⟨f, fd, F, hm⟩ := D.ex
  have Bd := F.binds (ps := ["_law_act"]) (fun _ _ _ _ _ _ us hl => match us, hl with | [_], _ => rfl)
  have kp := F.kp
  obtain ⟨oc, od, kV, doc, pm, an, cdv, ct, osl, rfl, lk, hcd⟩ := F.ex
  subst hT
  exact pe_lamcall hgl hm kp lk hcd Bd sc__law_heard rfl (.inl (by decide +kernel)) (heard_gives2 N B hcl RE RO hg (hr.mono h6)) TB hcode (List.mem_singleton.mpr rfl) (fun p hp _ => by rw [List.mem_singleton.mp hp]) hr L hdef hbind hbody
end
end Ts
namespace Ts
open PySem PySem.Spec PyProof.Rows L2 L2H LamX
section
variable {P : Program} {w : World} {K : PySem.W.Frag} {mg : Str → Option Value} {base : Heap}
theorem has_withinA (D : DefAt K mg "_law_within" s__law_within) (B : Blt0 mg) : Has P w K mg base 1 "_law_within" ["_law_thing", "_law_low", "_law_high"] (spIsNumberA K) := by
  refine D.has (fun _ _ _ _ _ _ us hl => match us, hl with | [_, _, _], _ => rfl) fun f fd F => F.ok sc__law_within (fun vs H Q E h => ?_) (fun cdv A outer s H vs Q E hr h => ?_)
  · obtain ⟨v, lo, hi, o, rfl, _⟩ := h; rfl
  obtain ⟨v, lo, hi, o, rfl, hv, q⟩ := h
  refine ⟨_, (pss_one (ps_ret (pe_and (pe_callB call_isi (by rfl) B.zisinstance (by decide +kernel) (pa_cons (pv 0) (pa_cons (pe_ty "int" B.zint) pa_nil))) (pe_and (pe_not (pe_callB call_isi (by rfl) B.zisinstance (by decide +kernel) (pa_cons (pv 0) (pa_cons (pe_ty "bool" B.zbool) pa_nil)))) (pe_one (pe_chain op_le op_le (pv 1) (pv 0) (pv 2))))))), ?_⟩
  cases o with
  | some i =>
    cases hv
    refine ⟨_, rfl, _, _, _, _, _, rfl, .ty "int", .base (.int i), kit_ty (r := true) (by decide +kernel), true, rfl, ?_⟩
    refine iteT ⟨_, rfl, _, _, _, _, _, rfl, .ty "bool", .base (.int i), kit_ty (r := false) (by decide +kernel), false, rfl, true, rfl, ?_⟩
    refine iteT ⟨_, rfl, _, rfl, _, _, rfl, rfl, _, rfl, ite2 (fun c => ⟨_, rfl, _, _, rfl, rfl, ?_⟩) (fun c => ?_)⟩
    · have e : decide (i ≤ hi) = inRg (some i) lo hi := by
        have := of_decide_eq_true c
        show decide (i ≤ hi) = decide (lo ≤ i ∧ i ≤ hi)
        by_cases z : i ≤ hi <;> simp [z, this]
      rw [← e] at q
      exact q
    · have e : inRg (some i) lo hi = false := decide_eq_false fun z => c (decide_eq_true z.1)
      rw [e] at q; exact q
  | none =>
    obtain ⟨T, hT, ht⟩ := hv
    by_cases tb : T = "bool"
    · subst tb
      refine ⟨_, rfl, _, _, _, _, _, rfl, .ty "int", ht, kit_ty (r := true) (by decide +kernel), true, rfl, ?_⟩
      exact iteT ⟨_, rfl, _, _, _, _, _, rfl, .ty "bool", ht, kit_ty (r := true) (by decide +kernel), true, rfl, false, rfl, iteF q⟩
    · have k : PySem.W.kitOne K (.type T) (.type "int") = some false := by
        have go : ∀ T ∈ ["bool", "str", "NoneType", "list", "tuple", "dict"], T ≠ "bool" → kitB T "int" = some false := by decide +kernel
        exact kit_ty (go T hT tb)
      exact ⟨_, rfl, _, _, _, _, _, rfl, .ty "int", ht, k, false, rfl, iteF q⟩
theorem has_same (D : DefAt K mg "_law_same" s__law_same) (B : Blt0 mg) : Has P w K mg base 1 "_law_same" ["_law_told", "_law_due"] (spSame K) := by
  refine D.has (fun _ _ _ _ _ _ us hl => match us, hl with | [_, _], _ => rfl) fun f fd F => F.ok sc__law_same (fun vs H Q E h => ?_) (fun cdv A outer s H vs Q E hr h => ?_)
  · obtain ⟨l, d, xs, ws, due, rfl, _⟩ := h; rfl
  obtain ⟨l, dl, xs, ws, due, rfl, hl, hx, hn, hd, hf, hs, q⟩ := h
  have len := hx.length
  refine ⟨_, (pss_cons (ps_if (pt_cmpR (op_eqD (hu64 hr)) (pv 1) (pe_lst pa_nil) (nomark _)) (pss_one (ps_ret (pe_cmpR (op_eqD (hu64 hr)) (pe_lc (own := [("_law_each", 2)]) rfl sc__law_same.nd (pi_list (pv 0)) (blkOk_by (N := ["_law_told", "_law_due", "_law_each"]) (sc := defScope s__law_same) (own := [("_law_each", 2)]) (by decide +kernel)) (fun _ _ _ _ _ => (pg_name (i := 2) sc__law_same.nd rfl (.inl rfl) (.inr rfl))) (fun _ _ _ _ _ => pts_nil) (fun _ _ _ _ _ => (pe_ix (ixL (K := K) rfl) (pv 2) pe_int (fun _ _ => rfl)))) (pe_op op_rep (pe_lst (pa_cons pe_str pa_nil)) (pe_callB call_len_seq (by rfl) B.zlen (by decide +kernel) (pa_cons (pv 0) pa_nil))) (nomark _)))) pss_nil)
      (pss_one (ps_ret (pe_cmpR (op_eqD (hu64 hr)) (pv 0) (pe_op op_rep (pe_lst (pa_cons (pv 1) pa_nil)) (pe_callB call_len_seq (by rfl) B.zlen (by decide +kernel) (pa_cons (pv 0) pa_nil))) (nomark _))))), ?_⟩
  refine ⟨_, rfl, by show 0 ≤ sizeLine; decide, fun p0 hp0 => ?_⟩
  have s0 : Same H (upd H p0 (.lst [])) := same_new hp0
  have e0 : (upd H p0 (.lst [])) p0 = some (.lst []) := upd_same
  revert s0 e0
  generalize upd H p0 (.lst []) = H0
  intro s0 e0
  have hx0 := hx.mono s0
  have hl0 := s0 _ _ hl
  have kz : ((xs.length : Int)).toNat = xs.length := Int.toNat_natCast _
  have hbk : (PyData.str "back").canLay0 = true := by decide +kernel
  cases due with
  | none =>
    refine ⟨_, _, .lst (SqL.of (s0 _ _ hd)) .nil, .lst (SqL.of e0) .nil, by decide, by decide, _, rfl, iteT ?_⟩
    refine ⟨_, rfl, l, rfl, ⟨_, SqL.of hl0⟩, fun pl hpl => ?_⟩
    refine lc_list (K := K) (a := l) (xs := xs) (fun k H1 => Same H0 H1 ∧ H1 pl = some (.lst (List.replicate k (.str "back")))) ⟨same_new hpl, upd_same⟩ (fun _ _ _ z => z.1.seq (SqL.of hl0)) ?_ ?_
    · rintro k x H1 hk ⟨s1, e1⟩
      obtain ⟨wd, hw, ⟨p, rfl, hp⟩⟩ := hx0.get hk
      have kl : k < xs.length := (List.getElem?_eq_some_iff.mp hk).1
      refine ⟨rfl, ?_⟩
      refine ⟨_, rfl, p, _, (0 : Int), _, rfl, rfl, SqL.of (s1 _ _ hp), atI_nat (j := 0) rfl, _, e1, by rw [List.length_replicate]; exact small1000 (by omega), Same.app hpl s1, ?_⟩
      have hb : wd.1 = "back" := hf wd hw
      rw [hb, upd_same, List.replicate_succ']
    · rintro H1 ⟨s1, e1⟩
      refine ⟨by show 1 ≤ sizeLine; decide, fun p1 hp1 => ?_⟩
      refine ⟨_, rfl, l, xs, rfl, .inl (SqL.of (same_new hp1 _ _ (s1 _ _ hl0))), p1, _, _, rfl, rfl, upd_same, by omega, by omega, by rw [kz]; exact Nat.le_trans (show 1 * xs.length ≤ 1000 by omega) (by decide), fun p2 hp2 => ?_⟩
      rw [kz, List.flatten_replicate_singleton]
      have e1' : (upd (upd H1 p1 (.lst [.str "back"])) p2 (.lst (List.replicate xs.length (.str "back")))) pl = some (.lst (List.replicate xs.length (.str "back"))) := same_new hp2 _ _ (same_new hp1 _ _ e1)
      refine ⟨.list (List.replicate xs.length (.str "back")), .list (List.replicate xs.length (.str "back")), .lst (SqL.of e1') (dp_rep (.str _) _), .lst (SqL.of upd_same) (dp_rep (.str _) _), shaped_rep hbk (by decide), shaped_rep hbk (by decide), ?_⟩
      rw [eqv_rep hbk]
      exact q _ (s0.trans (s1.trans ((same_new hp1).trans (same_new hp2))))
  | some d =>
    have hl1 := lay_pair (hs d rfl)
    have sh1 : SeqAt.shaped (pairW d) = true := by
      unfold SeqAt.shaped
      rw [hl1]; rfl
    refine ⟨_, _, .lst (SqL.of (s0 _ _ hd)) (.cons (.str _) (.cons (.str _) .nil)), .lst (SqL.of e0) .nil, sh1, by decide, _, rfl, iteF ?_⟩
    refine ⟨_, rfl, _, rfl, by show 1 ≤ sizeLine; decide, fun p1 hp1 => ?_⟩
    refine ⟨_, rfl, l, xs, rfl, .inl (SqL.of (same_new hp1 _ _ hl0)), p1, _, _, rfl, rfl, upd_same, by omega, by omega, by rw [kz]; exact Nat.le_trans (show 1 * xs.length ≤ 1000 by omega) (by decide), fun p2 hp2 => ?_⟩
    rw [kz, List.flatten_replicate_singleton]
    have s2 : Same H0 (upd (upd H0 p1 (.lst [.ref dl])) p2 (.lst (List.replicate xs.length (.ref dl)))) := (same_new hp1).trans (same_new hp2)
    have ew : ws = List.replicate xs.length d := by rw [len]; exact all_rep fun y hy => hf y hy
    have D1 : DpAll K (upd (upd H0 p1 (.lst [.ref dl])) p2 (.lst (List.replicate xs.length (.ref dl)))) xs (List.replicate xs.length (pairW d)) := by
      have := (hx0.mono s2).dp (K := K)
      rw [ew, List.map_replicate] at this
      exact this
    refine ⟨.list (List.replicate xs.length (pairW d)), .list (List.replicate xs.length (pairW d)), .lst (SqL.of (s2 _ _ hl0)) D1, .lst (SqL.of upd_same) (dp_rep (.lst (SqL.of (s2 _ _ (s0 _ _ hd))) (.cons (.str _) (.cons (.str _) .nil))) _), shaped_rep hl1 (show 1 ≤ 60 by decide), shaped_rep hl1 (show 1 ≤ 60 by decide), ?_⟩
    rw [eqv_rep hl1]
    exact q _ (s0.trans s2)
end
end Ts
namespace Ts
open PySem PySem.Spec PyProof.Rows L2
section
variable {P : Program} {w : World} {K : PySem.W.Frag} {mg : Str → Option Value} {base : Heap}
theorem has_kept (D : DefAt K mg "_law_kept" s__law_kept) (B : Blt mg) : Has P w K mg base 1 "_law_kept" ["_law_part_here", "_law_t"] (spKept K) := by
  refine D.has (fun _ _ _ _ _ _ us hl => match us, hl with | [_, _], _ => rfl) fun f fd F => F.ok sc__law_kept (fun vs H Q E h => ?_) (fun cdv A outer s H vs Q E hr h => ?_)
  · obtain ⟨v, e, p, t, rfl, _⟩ := h; rfl
  obtain ⟨v, e, p, t, rfl, hv, ⟨g1, g2, g3, g4⟩, ht, q⟩ := h
  obtain ⟨a, rfl, hS⟩ := part_at hv
  refine ⟨_, (pss_cons (ps_asg (pv 0) (pg_tup rfl (pgs_cons (pg_name (i := 2) sc__law_kept.nd rfl (.inr rfl)) (pgs_cons (pg_name (i := 3) sc__law_kept.nd rfl (.inr rfl)) pgs_nil))))
      (pss_cons (ps_set (i := 4) sc__law_kept.nd rfl (.inl rfl) (pe_op op_fdiv (pe_op op_mul (pv 1) (pv 2)) (pv 3)))
      (pss_one (ps_ret (pe_lc (own := [("_law_many", 5)]) rfl sc__law_kept.nd (pi_rangeF (by rfl) B.zrange (pa_cons (pe_callB (call_max2 rfl) (by rfl) B.zmax (by decide +kernel) (pa_cons pe_int (pa_cons (pe_op op_sub (pv 4) pe_int) pa_nil))) (pa_cons (pe_op op_add (pv 4) pe_int) pa_nil))) (blkOk_by (N := ["_law_part_here", "_law_t", "_law_e", "_law_p", "_law_near", "_law_many"]) (sc := defScope s__law_kept) (own := [("_law_many", 5)]) (by decide +kernel)) (fun _ _ _ _ _ => (pg_name (i := 5) sc__law_kept.nd rfl (.inl rfl) (.inr rfl))) (fun _ _ _ _ _ => (pts_one (PW.pt (pw_and (pt_cmpR op_lt (pe_op op_sub (pe_op op_mul (pv 1) (pv 2)) (pe_op op_mul (pv 5) (pv 3))) (pv 3) (nomark _)) (pw_and1 (pt_cmpR op_lt (pe_op op_sub (pe_op op_mul (pv 5) (pv 3)) (pe_op op_mul (pv 1) (pv 2))) (pv 3) (nomark _))))))) (fun _ _ _ _ _ => (pv 5))))))), ?_⟩
  have hp0 : 0 < p := by omega
  refine ⟨_, rfl, a, _, rfl, hS, rfl, _, _, rfl, _, _, rfl, rfl, ?_⟩
  refine ⟨_, rfl, _, rfl, _, _, rfl, rfl, .inr ⟨by omega, by omega⟩, _, rfl, _, _, rfl, rfl, ⟨by omega, by omega⟩, ?_⟩
  have hl := low_range (e := e) (p := p) g1 g2 ht
  have hh := high_range (e := e) (p := p) g1 g2 ht
  refine ⟨_, rfl, _, _, rfl, rfl, ?_⟩
  refine ⟨_, _, rfl, ?_⟩
  refine ⟨_, rfl, _, _, rfl, rfl, _, _, rfl, fun pl hpl => ?_⟩
  have e0 : (if t * (e : Int) / (p : Int) - 2 > 0 then t * (e : Int) / (p : Int) - 2 else 0) = max 0 (lowI e p t - 2) := by
    unfold lowI
    split <;> omega
  show ∃ W : Nat → Nat → Hp → Prop, _
  rw [e0]
  have e1 : t * (e : Int) / (p : Int) = lowI e p t := rfl
  rw [e1]
  generalize hlo : max 0 (lowI e p t - 2) = lo
  refine lc_range (lo := lo) (n := (lowI e p t + 4 - lo).toNat) (fun i Hm => Same H Hm ∧ Hm pl = some (.lst (rgV (lowI e p t) (min (lo + i) (highI e p t + 1))))) ⟨same_new hpl, by rw [rg_nil (by omega)]; exact upd_same⟩ ?_ ?_
  · rintro i H2 hi ⟨s2, e2⟩
    generalize hm : lo + (i : Int) = m at e2 ⊢
    have hk := kept_ends (e := e) (p := p) (t := t) (m := m) hp0
    have no : ¬ (t * e - m * p < p ∧ m * p - t * e < p) → rgV (lowI e p t) (min m (highI e p t + 1)) = rgV (lowI e p t) (min (lo + ((i + 1 : Nat) : Int)) (highI e p t + 1)) := fun nk => by
      rw [hk] at nk
      by_cases h1 : m < lowI e p t
      · rw [rg_nil (by omega), rg_nil (by omega)]
      · rw [show min (lo + ((i + 1 : Nat) : Int)) (highI e p t + 1) = min m (highI e p t + 1) by omega]
    refine ⟨rfl, ?_⟩
    refine ⟨_, rfl, _, rfl, _, _, rfl, rfl, .inr ⟨by omega, by omega⟩, _, rfl, _, rfl, _, _, rfl, rfl, .inr ⟨by omega, by omega⟩, _, _, rfl, rfl, _, rfl, _, _, rfl, rfl, _, rfl, ite2 (fun c1 => ?_) (fun c1 => iteF ⟨s2, by rw [e2, no fun z => c1 (decide_eq_true z.1)]⟩)⟩
    have k1 : t * e - m * p < (p : Int) := of_decide_eq_true c1
    refine ⟨_, rfl, _, rfl, _, _, rfl, rfl, .inr ⟨by omega, by omega⟩, _, rfl, _, rfl, _, _, rfl, rfl, .inr ⟨by omega, by omega⟩, _, _, rfl, rfl, _, rfl, _, _, rfl, rfl, _, rfl, ite2 (fun c2 => ?_) (fun c2 => ⟨s2, by rw [e2, no fun z => c2 (decide_eq_true z.2)]⟩)⟩
    have k2 : m * p - t * e < (p : Int) := of_decide_eq_true c2
    obtain ⟨y1, y2⟩ := hk.mp ⟨k1, k2⟩
    rw [show min m (highI e p t + 1) = m by omega] at e2
    refine ⟨_, rfl, _, e2, ?_, Same.app hpl s2, ?_⟩
    · rw [rgV_length]; exact small1000 (by omega)
    · rw [upd_same, show min (lo + ((i + 1 : Nat) : Int)) (highI e p t + 1) = m + 1 by omega, rg_snoc y1]
  rintro H2 ⟨s2, e2⟩
  rw [show min (lo + (((lowI e p t + 4 - lo).toNat : Nat) : Int)) (highI e p t + 1) = highI e p t + 1 by omega, kept_rg hp0] at e2
  exact q pl H2 hpl s2 e2
end
end Ts
namespace Ts
open PySem PySem.Spec PyProof.Rows L2 L2H LamX
section
variable {P : Program} {w : World} {K : PySem.W.Frag} {mg : Str → Option Value} {base : Heap}
theorem has_is_row (D : DefAt K mg "_law_is_row" s__law_is_row) (B : Blt0 mg) (h__law_within : Has P w K mg base 1 "_law_within" ["_law_thing", "_law_low", "_law_high"] (spIsNumberA K)) (h__law_kept : Has P w K mg base 1 "_law_kept" ["_law_part_here", "_law_t"] (spKept K)) : Has P w K mg base 2 "_law_is_row" ["_law_jobs_here", "_law_t", "_law_thing"] (spIsRowK K) := by
  refine D.has (fun _ _ _ _ _ _ us hl => match us, hl with | [_, _, _], _ => rfl) fun f fd F => F.ok sc__law_is_row (fun vs H Q E h => ?_) (fun cdv A outer s H vs Q E hr h => ?_)
  · obtain ⟨p, js, t, v, o, rfl, _⟩ := h; rfl
  obtain ⟨p, js, t, v, o, rfl, hJ, G, l6, t0, t1, hv, q⟩ := h
  refine ⟨_, (pss_cons (ps_if (PW.pt (pw_or (pt_not (pt_val (pe_callB call_isi (by rfl) B.zisinstance (by decide +kernel) (pa_cons (pv 2) (pa_cons (pe_ty "tuple" B.ztuple) pa_nil))))) (pw_or1 (pt_cmpR op_ne (pe_callB call_len_seq (by rfl) B.zlen (by decide +kernel) (pa_cons (pv 2) pa_nil)) (pe_callB call_len_seq (by rfl) B.zlen (by decide +kernel) (pa_cons (pv 0) pa_nil)) (nomark _))))) (pss_one (ps_ret pe_bl)) pss_nil)
      (pss_cons (ps_for PassesOwn.never rfl (pi_range1 (by rfl) B.zrange (pa_cons (pe_callB call_len_seq (by rfl) B.zlen (by decide +kernel) (pa_cons (pv 0) pa_nil)) pa_nil)) (pg_name (i := 3) sc__law_is_row.nd rfl (.inl rfl)) (pss_one (ps_if (PW.pt (pw_or (pt_not (pt_val (pe_h h__law_within (hr.mono (by decide)) (pa_cons (pe_ix ix_tup (pv 2) (pv 3) (fun _ _ => rfl)) (pa_cons pe_int (pa_cons (pe_op op_pow pe_int pe_int) pa_nil)))))) (pw_or1 (pt_cmpR op_notIn_seq (pe_ix ix_tup (pv 2) (pv 3) (fun _ _ => rfl)) (pe_h h__law_kept (hr.mono (by decide)) (pa_cons (pe_ix ix_tup (pe_ix ix_list (pv 0) (pv 3) (fun _ _ => rfl)) pe_int (fun _ _ => rfl)) (pa_cons (pv 1) pa_nil))) (by rfl))))) (pss_one (ps_ret pe_bl)) pss_nil)))
      (pss_one (ps_ret pe_bl)))), ?_⟩
  obtain ⟨p2, ys, e, hS, hA⟩ := hJ.list
  cases e
  have ly : ys.length = js.length := by rw [hA.length, List.length_map]
  by_cases ts : tyN o = "tuple"
  · obtain ⟨ds, rfl⟩ : ∃ ds, o = some (.tuple ds) := by
      unfold tyN at ts
      split at ts
      all_goals first | exact ⟨_, rfl⟩ | exact absurd ts (by decide)
    have hd : Dp K H v (.tuple ds) := hv
    obtain ⟨u, xs, rfl, hT, hX⟩ := hd.tuple
    have lx : xs.length = ds.length := hX.length
    refine ⟨_, rfl, _, _, _, _, _, rfl, .ty "tuple", sqt_ty hT, kit_ty (r := true) (by decide +kernel), true, rfl, iteF ?_⟩
    refine ⟨_, rfl, u, _, rfl, .inr hT, _, rfl, p, _, rfl, .inl hS, rfl, _, rfl, ?_⟩
    by_cases el : xs.length = js.length
    · have d0 : (!decide (V.int ((xs.length : Nat) : Int) = V.int ((ys.length : Nat) : Int))) = false := by
        rw [el, ly, decide_eq_true rfl]; rfl
      refine itF d0 ?_
      refine ⟨_, rfl, p, _, rfl, .inl hS, ?_⟩
      rw [show ((ys.length : Nat) : Int) = ((js.length : Nat) : Int) by rw [ly]]
      refine ⟨_, rfl, by omega, by omega, for_range (lo := 0) (n := ((js.length : Nat) : Int).toNat) (fun i σ Hn => Same H Hn ∧ inLH t (js.drop i) (ds.drop i) = inLH t js ds ∧ ∃ v3, σ = [some (.ref p), some (.int t), some (.ref u), v3]) ⟨Same.refl _, rfl, _, rfl⟩ ?_ ?_⟩
      · rintro i σ H2 hi ⟨s2, hb, v3, rfl⟩
        have hij : i < js.length := by omega
        obtain ⟨j, ej⟩ : ∃ j, js[i]? = some j := ⟨_, List.getElem?_eq_getElem hij⟩
        obtain ⟨x, ex⟩ : ∃ x, xs[i]? = some x := ⟨_, List.getElem?_eq_getElem (show i < xs.length by omega)⟩
        obtain ⟨y, ey⟩ : ∃ y, ys[i]? = some y := ⟨_, List.getElem?_eq_getElem (show i < ys.length by omega)⟩
        obtain ⟨dx, hdx, hvx⟩ := hX.get ex
        obtain ⟨k, a, q2, hk, rfl, hjb, hq⟩ := job_at hA ey
        rw [ej] at hk
        cases hk
        rw [inLH_drop ej hdx] at hb
        have ec : (0 : Int) + (i : Int) = (i : Int) := by omega
        rw [ec]
        have hT2 := sameT s2 hT
        refine ⟨_, rfl, _, rfl, u, xs, i, x, rfl, rfl, hT2, atI_nat ex, _, _, rfl, rfl, ⟨by decide, by decide, by decide⟩, x, 0, _, kindD dx, rfl, (dp_kind hvx).mono s2, ?_⟩
        have g := G.part j (List.mem_of_getElem? ej)
        have fine := lowI_fine g t0 t1
        obtain ⟨g1, g2, g3, g4⟩ := id g
        have hlo := low_range (e := j.2.1) (p := j.2.2) g1 g2 t0
        have hhi := high_range (e := j.2.1) (p := j.2.2) g1 g2 t0
        have hbig : (10 : Int) ^ (31 : Int).toNat = 10 * 10 ^ 30 := by decide
        refine ⟨_, rfl, ?_⟩
        cases eb : inRg (kindD dx) 0 ((10 : Int) ^ (31 : Int).toNat) with
        | false =>
          have eb2 : inRg (kindD dx) (lowI j.2.1 j.2.2 t) (highI j.2.1 j.2.2 t) = false := by
            cases e : inRg (kindD dx) (lowI j.2.1 j.2.2 t) (highI j.2.1 j.2.2 t) with
            | false => rfl
            | true =>
              obtain ⟨m, hm, m1, m2⟩ := inRg_is e
              rw [hm] at eb
              exact absurd ⟨by omega, by rw [hbig]; omega⟩ (of_decide_eq_false eb)
          rw [eb2, Bool.false_and] at hb
          refine iteT (iteT ?_)
          have e0 : stB js t (some (.tuple ds)) = false := hb.symm
          rw [e0] at q
          exact q H2 s2
        | true =>
          obtain ⟨m, hm, m1, m2⟩ := inRg_is eb
          have edx : dx = .int m := by
            cases dx with
            | int k => cases hm; rfl
            | _ => cases hm
          subst edx
          cases hvx.int_eq
          refine iteF ?_
          refine ⟨_, rfl, _, rfl, u, xs, i, _, rfl, rfl, hT2, atI_nat ex, _, rfl, _, rfl, p, ys, i, _, rfl, rfl, s2.seq hS, atI_nat ey, a, _, 1, _, rfl, rfl, sameT s2 hjb, atI_nat (j := 1) rfl, _, rfl, .ref q2, j.2.1, j.2.2, t, rfl, .tup (sameT s2 hq) (.cons (.int _) (.cons (.int _) .nil)), g, t0, fun pl H3 hn s3 e3 => ?_⟩
          refine ⟨pl, _, rfl, .inl (SqL.of e3), rfl, List.all_eq_true.mpr fun v hv => (by obtain ⟨t', _, rfl⟩ := List.mem_map.mp hv; rfl), _, rfl, ?_⟩
          have ei : (if true = true then !inV (.int m) ((keptL j.2.1 j.2.2 t).map V.int) else inV (.int m) ((keptL j.2.1 j.2.2 t).map V.int)) = !inRg (kindD (.int m)) (lowI j.2.1 j.2.2 t) (highI j.2.1 j.2.2 t) := by
            rw [if_pos rfl, inV_ints]
            show _ = !decide _
            rw [decide_eq_decide.mpr (keptL_iff (by omega))]
          rw [ei]
          cases e1 : inRg (kindD (.int m)) (lowI j.2.1 j.2.2 t) (highI j.2.1 j.2.2 t) with
          | true =>
            rw [e1, Bool.true_and] at hb
            exact iteF ⟨s2.trans s3, hb, _, rfl⟩
          | false =>
            rw [e1, Bool.false_and] at hb
            have e0 : stB js t (some (.tuple ds)) = false := hb.symm
            rw [e0] at q
            exact iteT (q H3 (s2.trans s3))
      · rintro σ H2 ⟨s2, hb, v3, rfl⟩
        have e1 : js.drop ((js.length : Nat) : Int).toNat = [] := List.drop_eq_nil_of_le (by omega)
        have e2 : ds.drop ((js.length : Nat) : Int).toNat = [] := List.drop_eq_nil_of_le (by omega)
        rw [e1, e2] at hb
        have e0 : stB js t (some (.tuple ds)) = true := hb.symm
        rw [e0] at q
        exact q H2 s2
    · have d0 : (!decide (V.int ((xs.length : Nat) : Int) = V.int ((ys.length : Nat) : Int))) = true := by
        rw [decide_eq_false (fun z => el (by have := V.int.inj z; omega))]; rfl
      have e0 : stB js t (some (.tuple ds)) = false := by
        cases e : inLH t js ds with
        | false => exact e
        | true => exact absurd (lx.trans (inLH_len e)) el
      rw [e0] at q
      exact itT d0 (q H fun _ _ z => z)
  · have e0 : stB js t o = false := by
      unfold stB
      split
      · exact absurd rfl ts
      · rfl
    have kn : PySem.W.kitOne K (.type (tyN o)) (.type "tuple") = some false := by
      have go : ∀ T ∈ ["dict", "NoneType", "bool", "int", "str", "list", "tuple"], T ≠ "tuple" → kitB T "tuple" = some false := by decide +kernel
      exact kit_ty (go _ (tyN_in o) ts)
    rw [e0] at q
    exact ⟨_, rfl, _, _, _, _, _, rfl, .ty "tuple", hv.ty, kn, false, rfl, iteT (q H fun _ _ z => z)⟩
theorem has_row (D : DefAt K mg "_law_row" s__law_row) (B : Blt0 mg) (h__law_ladle : Has P w K mg base 1 "_law_ladle" ["_law_basin_here", "_law_many"] spLadle) (h__law_kept : Has P w K mg base 1 "_law_kept" ["_law_part_here", "_law_t"] (spKept K)) : Has P w K mg base 2 "_law_row" ["_law_basin_here", "_law_jobs_here", "_law_t"] (spRowK K) := by
  refine D.has (fun _ _ _ _ _ _ us hl => match us, hl with | [_, _, _], _ => rfl) fun f fd F => F.ok sc__law_row (fun vs H Q E h => ?_) (fun cdv A outer s H vs Q E hr h => ?_)
  · obtain ⟨b, p, js, t, rfl, _⟩ := h; rfl
  obtain ⟨b, p, js, t, rfl, hB, hJ, G, l0, l6, t0, t1, q⟩ := h
  refine ⟨_, (pss_cons (ps_set (i := 5) sc__law_row.nd rfl (.inl rfl) (pe_callTy call_tuple_of (by rfl) B.ztuple (by decide +kernel) (pa_cons (pe_lc (own := [("_law_tag", 3), ("_law_part_here", 4)]) rfl sc__law_row.nd (pi_list (pv 1)) (blkOk_by (N := ["_law_basin_here", "_law_jobs_here", "_law_t", "_law_tag", "_law_part_here", "_law_row_here", "_law_at", "_law_way_here", "_law_odd"]) (sc := defScope s__law_row) (own := [("_law_tag", 3), ("_law_part_here", 4)]) (by decide +kernel)) (fun _ _ _ _ _ => (pg_tupK (K := K) (n := 2) rfl rfl (pgs_cons (pg_name (i := 3) sc__law_row.nd rfl (.inl rfl) (.inr rfl)) (pgs_cons (pg_name (i := 4) sc__law_row.nd rfl (.inl rfl) (.inr rfl)) pgs_nil)))) (fun _ _ _ _ _ => pts_nil) (fun _ _ _ _ _ => (pe_ix (ixL (K := K) rfl) (pe_h h__law_kept (hr.mono (by decide)) (pa_cons (pv 4) (pa_cons (pv 2) pa_nil))) (pe_h h__law_ladle (hr.mono (by decide)) (pa_cons (pv 0) (pa_cons (pe_callB (lenS (K := K) rfl) (by rfl) B.zlen (by decide +kernel) (pa_cons (pe_h h__law_kept (hr.mono (by decide)) (pa_cons (pv 4) (pa_cons (pv 2) pa_nil))) pa_nil)) pa_nil))) (fun _ _ => rfl)))) pa_nil)))
      (pss_cons (ps_par (i := 6) (j := 7) (by rfl) sc__law_row.nd rfl rfl (by decide) rfl rfl (pa_cons (pe_h h__law_ladle (hr.mono (by decide)) (pa_cons (pv 0) (pa_cons (pe_callB call_len_seq (by rfl) B.zlen (by decide +kernel) (pa_cons (pv 5) pa_nil)) pa_nil))) (pa_cons (pe_h h__law_ladle (hr.mono (by decide)) (pa_cons (pv 0) (pa_cons pe_int pa_nil))) pa_nil)) (by rfl))
      (pss_cons (ps_if (pt_cmpR op_eq (pv 7) pe_int (nomark _)) (pss_one (ps_ret (pe_ix ix_list (pe_lst (pa_cons (pe_callTy call_list_of (by rfl) B.zlist (by decide +kernel) (pa_cons (pv 5) pa_nil)) (pa_cons pe_non (pa_cons (pe_op (op_catUK (K := K) rfl) (pv 5) (pe_tup (pa_cons pe_int pa_nil))) (pa_cons (pe_slice sl_tupU (pv 5) (po_some pe_int) po_none) (pa_cons (pe_tup pa_nil) (pa_cons pe_str (pa_cons pe_dnewK (pa_cons pe_int pa_nil))))))))) (pe_h h__law_ladle (hr.mono (by decide)) (pa_cons (pv 0) (pa_cons pe_int pa_nil))) (fun _ _ => rfl)))) pss_nil)
      (pss_cons (ps_if (pt_cmpR op_lt (pv 7) pe_int (nomark _)) (pss_cons (ps_set (i := 8) sc__law_row.nd rfl (.inl rfl) (pe_ix ix_list (pe_lst (pa_cons (pe_op op_add (pe_ix ix_tup (pv 5) (pv 6) (fun _ _ => rfl)) pe_int) (pa_cons (pe_op op_sub (pe_ix ix_tup (pv 5) (pv 6) (fun _ _ => rfl)) pe_int) (pa_cons pe_bl (pa_cons pe_non (pa_cons (pe_callTy call_str_int (by rfl) B.zstr (by decide +kernel) (pa_cons (pe_ix ix_tup (pv 5) (pv 6) (fun _ _ => rfl)) pa_nil)) (pa_cons (pe_tup (pa_cons (pe_ix ix_tup (pv 5) (pv 6) (fun _ _ => rfl)) pa_nil)) (pa_cons (pe_op op_add (pe_ix ix_tup (pv 5) (pv 6) (fun _ _ => rfl)) pe_int) pa_nil)))))))) (pe_h h__law_ladle (hr.mono (by decide)) (pa_cons (pv 0) (pa_cons pe_int pa_nil))) (fun _ _ => rfl)))
      (pss_one (ps_ret (pe_op op_catU (pe_op op_catU (pe_slice sl_tupU (pv 5) po_none (po_some (pv 6))) (pe_tup (pa_cons (pv 8) pa_nil))) (pe_slice sl_tupU (pv 5) (po_some (pe_op op_add (pv 6) pe_int)) po_none))))) pss_nil)
      (pss_one (ps_ret (pv 5))))))), ?_⟩
  obtain ⟨p2, xs, e, hS, hA⟩ := hJ.list
  cases e
  have lx : xs.length = js.length := by rw [hA.length, List.length_map]
  -- the row
  refine ⟨_, rfl, p, rfl, ⟨_, hid_sub.seq hS⟩, fun pl hpl => ?_⟩
  have npl : pl ≠ b := hB.off hpl
  refine lc_list (K := K) (a := p) (xs := xs) (fun i Hm => But b H Hm ∧ Bas Hm b ∧ ∃ r : List Int, r.length = i ∧ (∀ m ∈ r, 0 ≤ m ∧ m ≤ 10 ^ 30 + 1) ∧ Hm pl = some (.lst (r.map V.int))) ⟨But.of_same (same_new hpl), hB.on (same_new hpl), [], rfl, (fun m hm => by cases hm), upd_same⟩ (fun _ _ _ z => hid_sub.seq (z.1.hid.seq hS)) ?_ ?_
  · rintro i x H2 hx ⟨b2, B2, r, lr, hr2, e2⟩
    obtain ⟨j, a, q2, hk, rfl, hjb, hq⟩ := job_at hA hx
    have g := G.part j (List.mem_of_getElem? hk)
    obtain ⟨g1, g2, g3, g4⟩ := id g
    have hkr := kept_range (e := j.2.1) (p := j.2.2) g1 g2 t0
    have hql := sameT hid_sub (sameT b2.hid hq)
    have hqd : ∀ {Hx : Hp}, Same H2 Hx → Dp K Hx (.ref q2) (partD j.2.1 j.2.2) := fun s => .tup (sameT s hql) (.cons (.int _) (.cons (.int _) .nil))
    refine ⟨a, _, rfl, sameT hid_sub (sameT b2.hid hjb), rfl, _, _, rfl, _, _, rfl, rfl, rfl, yesIf ?_⟩
    refine ⟨_, rfl, _, rfl, .ref q2, j.2.1, j.2.2, t, rfl, hqd (Same.refl _), g, t0, fun pk H3 hn3 s3 e3 => ?_⟩
    refine ⟨_, rfl, _, rfl, _, rfl, .ref q2, j.2.1, j.2.2, t, rfl, hqd s3, g, t0, fun pk2 H4 hn4 s4 e4 => ?_⟩
    have lk : (keptL j.2.1 j.2.2 t).length ≤ 2 := kept_len
    have lk0 : 0 < (keptL j.2.1 j.2.2 t).length := by unfold keptL; split <;> exact Nat.zero_lt_succ _
    have npk : pk ≠ b := B2.off hn3
    refine ⟨pk2, _, rfl, .inl (SqL.of e4), b, (((keptL j.2.1 j.2.2 t).length : Nat) : Int), by rw [List.length_map]; rfl, (B2.on s3).on s4, by omega, by omega, fun rr H5 r0 r1 b5 B5 => ?_⟩
    obtain ⟨kk, rfl⟩ := Int.eq_ofNat_of_zero_le r0
    obtain ⟨m, hm⟩ : ∃ m, (keptL j.2.1 j.2.2 t)[kk]? = some m := ⟨_, List.getElem?_eq_getElem (show kk < _ by omega)⟩
    have e5 := b5 _ _ npk (s4 _ _ e3)
    have bb : But b H H5 := ((b2.trans' s3).trans' s4).trans b5
    refine ⟨pk, _, kk, .int m, rfl, rfl, SqL.of e5, atI_nat (by rw [List.getElem?_map, hm]; rfl), r.map V.int, b5 _ _ npl (s4 _ _ (s3 _ _ e2)), ?_, ?_, ?_, r ++ [m], ?_, ?_, ?_⟩
    · rw [List.length_map]; exact small1000 (by have := (List.getElem?_eq_some_iff.mp hx).1; omega)
    · exact fun c o n e => by rw [upd_ne (fun z => by rw [z, hpl] at e; cases e)]; exact bb c o n e
    · obtain ⟨z1, z2, z3, e⟩ := B5
      exact ⟨z1, z2, z3, by rw [upd_ne npl.symm]; exact e⟩
    · rw [List.length_append, lr]; rfl
    · intro y hy
      rcases List.mem_append.mp hy with z | z
      · exact hr2 y z
      · rw [List.mem_singleton.mp z]
        have := hkr m (List.mem_of_getElem? hm)
        omega
    · rw [upd_same, List.map_append]; rfl
  · rintro H2 ⟨b2, B2, r, lr, hr2, e2⟩
    rw [lx] at lr
    refine ⟨pl, _, rfl, .inl ⟨SqL.of e2, fun T hT => ?_⟩⟩
    have nT : T ≠ b := B2.off hT
    have bT := b2.trans' (same_new (o := .tup (r.map V.int)) hT)
    have BT := B2.on (same_new (o := .tup (r.map V.int)) hT)
    have eT : (upd H2 T (.tup (r.map V.int))) T = some (.tup (r.map V.int)) := upd_same
    revert bT BT eT
    generalize upd H2 T (.tup (r.map V.int)) = H3
    intro bT BT eT
    clear hT e2 B2 b2 hpl npl hJ hS hA
    dsimp only [List.set]
    have lv : (r.map V.int).length = js.length := by rw [List.length_map, lr]
    have hr3 : ∀ i ∈ r, -1 ≤ i ∧ i < 10 ^ 40 := fun i hi => by
      have h9 := hr2 i hi
      have : (10 : Int) ^ 30 + 1 < 10 ^ 40 := by decide
      omega
    refine ⟨_, rfl, _, rfl, T, _, rfl, .inr (SqT.of eT), b, (js.length : Int), by rw [lv]; rfl, BT, by omega, by omega, fun at_ H4 a0 a1 b4 B4 => ⟨_, rfl, b, 8, rfl, B4, by decide, by decide, fun way H5 w0 w1 b5 B5 => ⟨_, _, rfl, ?_⟩⟩⟩
    have e5 := b5 _ _ nT (b4 _ _ nT eT)
    have b05 := (bT.trans b4).trans b5
    clear eT b4 B4 b5 bT BT
    obtain ⟨ak, rfl⟩ := Int.eq_ofNat_of_zero_le a0
    obtain ⟨m, hm⟩ : ∃ m, r[ak]? = some m := ⟨_, List.getElem?_eq_getElem (show ak < r.length by omega)⟩
    have hmr := hr2 m (List.mem_of_getElem? hm)
    have hbig : (10 : Int) ^ 30 + 3 < 10 ^ 40 := by decide
    dsimp only [List.set]
    refine ⟨_, rfl, rfl, _, rfl, ?_⟩
    by_cases c0 : way = 0
    · subst c0
      refine iteT ?_
      have lz : (r.map V.int).length + 1 ≤ sizeLine := by rw [lv]; exact Nat.le_of_lt (small1000 (by omega))
      refine ⟨_, rfl, T, _, rfl, .inr (SqT.of e5), fun l hl => ⟨_, rfl, by show 1 ≤ sizeLine; decide, fun z hz => ⟨T, z, _, _, rfl, rfl, SqT.of (same_new hz _ _ (same_new hl _ _ e5)), SqT.of upd_same, lz, fun p3 H6 s6 c6 S6 => ?_⟩⟩⟩
      have nl : l ≠ b := B5.off hl
      have s56 := ((same_new (o := .lst (r.map V.int)) hl).trans (same_new (o := .tup [.int 0]) hz)).trans s6
      have fl := s6 _ _ (same_new (o := .tup [.int 0]) hz _ _ upd_same : (upd (upd H5 l (.lst (r.map V.int))) z (.tup [.int 0])) l = some (.lst (r.map V.int)))
      have e6 := s56 _ _ e5
      have B6 := B5.on s56
      have b06 := b05.trans' s56
      clear c6 s6 s56 hz hl e5 b05 B5
      refine ⟨_, rfl, _, rfl, T, _, rfl, SqT.of e6, fun p4 H7 s7 c7 S7 u7 => ?_⟩
      rw [cut_one (by rw [lv]; omega), ← List.map_drop] at S7
      have S6' := sameT s7 S6
      have fl' := s7 _ _ fl
      have B7 := B6.on s7
      have b07 := b06.trans' s7
      clear u7 c7 s7 e6 fl S6 B6 b06
      refine ⟨by show 0 ≤ sizeLine; decide, fun e he => fun dd hdd => ⟨by show 8 ≤ sizeLine; decide, fun L hL => ?_⟩⟩
      have nd : dd ≠ b := (B7.on (same_new he)).off hdd
      have ne : e ≠ b := B7.off he
      have nL : L ≠ b := ((B7.on (same_new he)).on (same_new hdd)).off hL
      have s8 := ((same_new (o := .tup []) he).trans (same_new (o := .dK []) hdd)).trans (same_new (o := .lst [.ref l, .non, .ref p3, .ref p4, .ref e, .str "0", .ref dd, .int 0]) hL)
      refine at_heap (fun Hx => Same H7 Hx ∧ Hx e = some (.tup []) ∧ Hx dd = some (.dK []) ∧ Hx L = some (.lst [.ref l, .non, .ref p3, .ref p4, .ref e, .str "0", .ref dd, .int 0])) ⟨s8, same_new hL _ _ (same_new hdd _ _ upd_same), same_new hL _ _ upd_same, upd_same⟩ ?_
      rintro Hx ⟨sx, fe, fd, fL⟩
      have Bx := B7.on sx
      obtain ⟨z1, z2, z3, eB⟩ := id Bx
      have bx := b07.trans' sx
      have plainC : ∀ {s : Str}, (s.cps.toList.all fun c => decide (c < 128)) = true → Plain s := fun h c hc => of_decide_eq_true (List.all_eq_true.mp h c hc)
      have S6x := seqT_hide eB (sameT sx S6')
      have S7x := seqT_hide eB (sameT sx S7)
      have OM : OddAll K (hid b Hx) [.ref l, .non, .ref p3, .ref p4, .ref e, .str "0", .ref dd, .int 0] :=
        .cons (OddV.intsL (SqL.of ((hid_ne nl).trans (sx _ _ fl'))) (by omega) hr3) (.cons (OddV.dec (d := .none) .non (by decide +kernel) trivial)
          (.cons (OddV.ints (l := r ++ [0]) (by rw [List.map_append]; exact S6x) (by rw [List.length_append]; show r.length + 1 ≤ 100; omega) (fun i hi => by
            rcases List.mem_append.mp hi with z | z
            · exact hr3 i z
            · rw [List.mem_singleton.mp z]; decide))
          (.cons (OddV.ints S7x (by rw [List.length_drop]; omega) (fun i hi => hr3 i (List.mem_of_mem_drop hi)))
          (.cons (OddV.dec (d := .tuple []) (.tup (SqT.of ((hid_ne ne).trans fe)) .nil) (by decide +kernel) (show 0 ≤ 100 by decide))
          (.cons (OddV.str (plainC (by decide +kernel)) (by decide +kernel)) (.cons (OddV.emp ((hid_ne nd).trans fd)) (.cons (OddV.dec (d := .int 0) (.int _) (by decide +kernel) trivial) .nil)))))))
      have lsM : ([.ref l, .non, .ref p3, .ref p4, .ref e, .str "0", .ref dd, .int 0] : List V).length = 8 := rfl
      revert OM lsM fL
      generalize ([.ref l, .non, .ref p3, .ref p4, .ref e, .str "0", .ref dd, .int 0] : List V) = vsM
      intro fL OM lsM
      refine ⟨_, rfl, b, 8, rfl, Bx, by decide, by decide, fun rr Hf r0 r1 bf Bf => ?_⟩
      obtain ⟨kf, rfl⟩ := Int.eq_ofNat_of_zero_le r0
      obtain ⟨vz, hvz⟩ : ∃ v, vsM[kf]? = some v := ⟨_, List.getElem?_eq_getElem (show kf < vsM.length by omega)⟩
      obtain ⟨oz, shz, hOz⟩ := OM vz (List.mem_of_getElem? hvz)
      exact ⟨L, _, kf, vz, rfl, rfl, SqL.of (bf _ _ nL fL), atI_nat hvz, q vz oz shz Hf (bx.trans bf) Bf (hOz.mono bf.hid)⟩
    have z0 : decide (V.int way = V.int 0) = false := decide_eq_false fun z => c0 (V.int.inj z)
    rw [z0]
    refine iteF ⟨_, rfl, _, _, rfl, rfl, _, rfl, ite2 (fun c4 => ?_) (fun c4 => ?_)⟩
    · have hat : (r.map V.int)[ak]? = some (.int m) := by rw [List.getElem?_map, hm]; rfl
      refine ⟨_, rfl, _, rfl, T, _, ak, .int m, rfl, rfl, SqT.of e5, atI_nat hat, _, _, rfl, rfl, ?_⟩
      refine ⟨_, rfl, _, rfl, T, _, ak, .int m, rfl, rfl, SqT.of e5, atI_nat hat, _, _, rfl, rfl, ?_⟩
      refine ⟨_, rfl, _, rfl, T, _, ak, .int m, rfl, rfl, SqT.of e5, atI_nat hat, _, rfl, ?_, ?_⟩
      · obtain ⟨n, rfl⟩ := Int.eq_ofNat_of_zero_le hmr.1
        show n.log2 < 1920
        by_cases z : n = 0
        · rw [z]; decide
        · have h9 : ((10 : Int) ^ 30 + 1) = ((10 ^ 30 + 1 : Nat) : Int) := by decide
          have h8 := hmr.2
          rw [h9] at h8
          have h7 : n ≤ 10 ^ 30 + 1 := Int.ofNat_le.mp h8
          have h6 : 10 ^ 30 + 1 < 2 ^ 100 := by decide
          exact (Nat.log2_lt z).mpr (Nat.lt_of_lt_of_le (Nat.lt_of_le_of_lt h7 h6) (Nat.pow_le_pow_right (by decide) (by decide)))
      refine ⟨_, rfl, _, rfl, T, _, ak, .int m, rfl, rfl, SqT.of e5, atI_nat hat, by show 1 ≤ sizeLine; decide, fun tt htt => ?_⟩
      refine ⟨_, rfl, _, rfl, T, _, ak, .int m, rfl, rfl, SqT.of (same_new htt _ _ e5), atI_nat hat, _, _, rfl, rfl, by show 7 ≤ sizeLine; decide, fun L hL => ?_⟩
      have ntt : tt ≠ b := B5.off htt
      have nL : L ≠ b := (B5.on (same_new htt)).off hL
      refine at_heap (fun Hx => Same H5 Hx ∧ Hx tt = some (.tup [.int m]) ∧ Hx L = some (.lst [.int (m + 1), .int (m - 1), .bl true, .non, .str (Str.ofString (toString m)), .ref tt, .int (m + 2)])) ⟨(same_new htt).trans (same_new hL), same_new hL _ _ upd_same, upd_same⟩ ?_
      rintro Hx ⟨sx, ft, fL⟩
      clear hL htt
      have Bx := B5.on sx
      refine ⟨_, rfl, b, 7, rfl, Bx, by decide, by decide, fun rr H6 r0 r1 b6 B6 => ?_⟩
      obtain ⟨kf, rfl⟩ := Int.eq_ofNat_of_zero_le r0
      have fi : ∀ {i : Int}, -1 ≤ i → i ≤ 10 ^ 30 + 3 → OkF 200 1 (.int i) := fun h1 h2 => (okf_int (e := 1) h1 (by omega)).mono (by decide) (by decide)
      obtain ⟨v, d, hv, hd, fdd⟩ : ∃ v d, ([.int (m + 1), .int (m - 1), .bl true, .non, .str (Str.ofString (toString m)), .ref tt, .int (m + 2)] : List V)[kf]? = some v ∧ (∀ H', H' tt = some (.tup [.int m]) → Dp K H' v d) ∧ OkF 200 1 d := by
        have : kf = 0 ∨ kf = 1 ∨ kf = 2 ∨ kf = 3 ∨ kf = 4 ∨ kf = 5 ∨ kf = 6 := by omega
        rcases this with rfl | rfl | rfl | rfl | rfl | rfl | rfl
        · exact ⟨_, _, rfl, fun _ _ => .int _, fi (by omega) (by omega)⟩
        · exact ⟨_, _, rfl, fun _ _ => .int _, fi (by omega) (by omega)⟩
        · exact ⟨_, _, rfl, fun _ _ => .bl _, (okf_bool (e := 1)).mono (by decide) (by decide)⟩
        · exact ⟨_, _, rfl, fun _ _ => .non, (okf_none (e := 1)).mono (by decide) (by decide)⟩
        · exact ⟨_, _, rfl, fun _ _ => .str _, (okf_num (e := 1) hmr.1 (by omega)).mono (by decide) (by decide)⟩
        · exact ⟨_, .tuple ([m].map PyData.int), rfl, fun _ e => .tup (SqT.of e) (.cons (.int _) .nil), (okf_tup (okf_ints (l := [m]) fun i hi => by rw [List.mem_singleton.mp hi]; omega)).mono (show (140 + 1) * 1 ≤ 200 by decide) (by decide)⟩
        · exact ⟨_, _, rfl, fun _ _ => .int _, fi (by omega) (by omega)⟩
      refine ⟨L, _, kf, v, rfl, rfl, SqL.of (b6 _ _ nL fL), atI_nat hv, ?_⟩
      have ft6 := b6 _ _ ntt ft
      have e6 := b6 _ _ nT (sx _ _ e5)
      have b06 := (b05.trans' sx).trans b6
      clear hv fL nL b6 Bx sx ft b05 B5 e5 r0 r1
      dsimp only [List.set]
      refine ⟨_, rfl, _, rfl, _, rfl, T, _, rfl, SqT.of e6, fun p1 H7 s7 c7 S7 u7 => ?_⟩
      rw [cut_to (by rw [lv]; omega), ← List.map_take] at S7
      refine ⟨_, rfl, by show 1 ≤ sizeLine; decide, fun q1 hq1 => ?_⟩
      have l1 : (r.take ak).length ≤ 6 := by rw [List.length_take]; omega
      refine ⟨p1, q1, _, _, rfl, rfl, sameT (same_new hq1) S7, SqT.of upd_same, ?_, fun p2 H8 s8 c8 S8 => ?_⟩
      · rw [List.length_map]; exact Nat.le_of_lt (small1000 (show (r.take ak).length + 1 ≤ 1000 by omega))
      have s68 := (s7.trans (same_new (o := .tup [v]) hq1)).trans s8
      have e8 := s68 _ _ e6
      have ft8 := s68 _ _ ft6
      have B8 := B6.on s68
      have b08 := b06.trans' s68
      clear s68 s8 c8 hq1 S7 u7 c7 s7 e6 ft6 B6 b06
      refine ⟨_, rfl, _, rfl, _, _, rfl, rfl, _, rfl, T, _, rfl, SqT.of e8, fun p3 H9 s9 c9 S9 u9 => ?_⟩
      rw [show (ak : Int) + 1 = ((ak + 1 : Nat) : Int) by omega, cut_from (by rw [lv]; omega), ← List.map_drop] at S9
      have l2 : (r.drop (ak + 1)).length ≤ 6 := by rw [List.length_drop]; omega
      refine ⟨p2, p3, _, _, rfl, rfl, sameT s9 S8, S9, ?_, fun p4 Ha sa ca Sa => ?_⟩
      · rw [List.length_append, List.length_map, List.length_map]
        exact Nat.le_of_lt (small1000 (show (r.take ak).length + 1 + (r.drop (ak + 1)).length ≤ 1000 by omega))
      have s8a := s9.trans sa
      have Ba := B8.on s8a
      obtain ⟨z1, z2, z3, eB⟩ := id Ba
      refine q _ _ _ _ (b08.trans' s8a) Ba (OddV.mix (seqT_hide eB Sa) (hd _ ((hid_ne ntt).trans (s8a _ _ ft8))) fdd (by omega) (fun i hi => hr3 i (List.mem_of_mem_take hi)) (fun i hi => hr3 i (List.mem_of_mem_drop hi)))
    · exact ⟨_, rfl, q _ _ _ _ b05 B5 (OddV.ints (SqT.of ((hid_ne nT).trans e5)) (by omega) hr3)⟩
end
end Ts
namespace Ts
open PySem PySem.Spec PyProof.Rows L2 L2H LamX
section
variable {P : Program} {w : World} {K : PySem.W.Frag} {mg : Str → Option Value} {base : Heap}
theorem has_no_lot {C : Addr} (D : DefAt K mg "_law_no_lot" s__law_no_lot) (B : Blt0 mg) (T : LotC K mg C) (p_text : PropH P w K mg base C "text" "_text") (h__law_ladle : Has P w K mg base 1 "_law_ladle" ["_law_basin_here", "_law_many"] spLadle) : Has P w K mg base 3 "_law_no_lot" ["_law_basin_here", "_law_here"] (spNoLot K C) := by
  refine D.has (fun _ _ _ _ _ _ us hl => match us, hl with | [_, _], _ => rfl) fun f fd F => F.ok sc__law_no_lot (fun vs H Q E h => ?_) (fun cdv A outer s H vs Q E hr h => ?_)
  · obtain ⟨b, x, n, js, rfl, _⟩ := h; rfl
  obtain ⟨b, x, n, js, rfl, hB, L, G, l6, n6, q⟩ := h
  refine ⟨_, (pss_cons (ps_if (pt_cmpR op_gt (pe_h h__law_ladle (hr.mono (by decide)) (pa_cons (pv 0) (pa_cons pe_int pa_nil))) pe_int (nomark _)) (pss_one (ps_ret (pv 1))) pss_nil)
      (pss_one (ps_ret (pe_ix ix_list (pe_lst (pa_cons pe_non (pa_cons (pe_ph p_text T.cl (hr.mono (by decide)) (pv 1)) (pa_cons (pe_tup (pa_cons (pv 1) pa_nil)) (pa_cons (pe_lst (pa_cons (pv 1) pa_nil)) (pa_cons pe_int (pa_cons pe_dnewK (pa_cons pe_bl (pa_cons pe_str pa_nil))))))))) (pe_h h__law_ladle (hr.mono (by decide)) (pa_cons (pv 0) (pa_cons pe_int pa_nil))) (fun _ _ => rfl))))), ?_⟩
  refine ⟨_, rfl, b, 5, rfl, hB, by decide, by decide, fun r H1 r0 r1 b1 B1 => ?_⟩
  have L1 := L.mono b1.hid
  have big : ∀ {x : Nat}, x ≤ 6 → x ≤ 1000 := fun h => by omega
  have shL : ∀ {Hh : Hp}, LotAt K C Hh x n js → ShC K C Hh (.ref x) (reprS js.length n) := fun L => .lot ⟨n, js, L, big n6, by omega, rfl⟩
  refine ⟨_, _, rfl, rfl, _, rfl, ite2 (fun _ => ?_) (fun _ => ?_)⟩
  · exact ⟨_, rfl, q _ (some (n, js)) _ H1 b1 B1 ⟨x, rfl, L1⟩ (shL L1) (plain_ok (plain_repr _ _)) fun p e => (Option.some.inj e).symm⟩
  have Lz := L1.mono hid_sub
  obtain ⟨dx, pn, pS, pt, hax, _⟩ := id Lz.ex
  refine ⟨_, rfl, lot_get hax lot_text ?_⟩
  refine ⟨_, rfl, by show 1 ≤ sizeLine; decide, fun q1 h1 => ⟨_, rfl, by show 1 ≤ sizeLine; decide, fun q2 h2 => ?_⟩⟩
  refine fun q3 h3 => ⟨by show 8 ≤ sizeLine; decide, fun M hM => ?_⟩
  refine at_heap2 (fun Hx => Same H1 Hx ∧ Hx q1 = some (.tup [.ref x]) ∧ Hx q2 = some (.lst [.ref x]) ∧ Hx q3 = some (.dK []) ∧ Hx M = some (.lst [.non, .str (pageS n js), .ref q1, .ref q2, .int 0, .ref q3, .bl true, .str "hands 1"])) ⟨(same_new h1).trans ((same_new h2).trans ((same_new h3).trans (same_new hM))), same_new hM _ _ (same_new h3 _ _ (same_new h2 _ _ upd_same)), same_new hM _ _ (same_new h3 _ _ upd_same), same_new hM _ _ upd_same, upd_same⟩ ?_
  rintro He ⟨se, f1, f2, f3, fM⟩
  have m1 : q1 ≠ b := B1.off h1
  have m2 : q2 ≠ b := (B1.on (same_new h1)).off h2
  have m3 : q3 ≠ b := (B1.on ((same_new h1).trans (same_new h2))).off h3
  have nM : M ≠ b := (B1.on ((same_new h1).trans ((same_new h2).trans (same_new h3)))).off hM
  clear hM h3 h2 h1
  have Be := B1.on se
  have Le := L1.mono (hid_same (b := b) se)
  have lpg : (pageS n js).length ≤ 1000 := by
    have := page_len (n := n) (by omega) (G.mono (show 16 ≤ 1000 by decide)) (by omega)
    omega
  have plainC : ∀ {s : Str}, (s.cps.toList.all fun c => decide (c < 128)) = true → Plain s := fun h c hc => of_decide_eq_true (List.all_eq_true.mp h c hc)
  have OM : NoLots K C (hid b He) [.non, .str (pageS n js), .ref q1, .ref q2, .int 0, .ref q3, .bl true, .str "hands 1"] :=
    .cons (OddV.noLot (OddV.dec (d := .none) .non (by decide +kernel) trivial)) (.cons (NoLotV.str (plain_page G) lpg) (.cons (NoLotV.tup ((hid_ne m1).trans f1) Le n6 l6) (.cons (NoLotV.lst ((hid_ne m2).trans f2) Le n6 l6)
      (.cons (OddV.noLot (OddV.dec (d := .int 0) (.int _) (by decide +kernel) trivial)) (.cons (OddV.noLot (OddV.emp ((hid_ne m3).trans f3))) (.cons (OddV.noLot (OddV.dec (d := .bool true) (.bl _) (by decide +kernel) trivial)) (.cons (NoLotV.str (plainC (by decide +kernel)) (by decide +kernel)) .nil)))))))
  have lsM : ([.non, .str (pageS n js), .ref q1, .ref q2, .int 0, .ref q3, .bl true, .str "hands 1"] : List V).length = 8 := rfl
  revert OM lsM fM
  generalize ([.non, .str (pageS n js), .ref q1, .ref q2, .int 0, .ref q3, .bl true, .str "hands 1"] : List V) = vsM
  intro fM OM lsM
  refine ⟨_, rfl, b, 8, rfl, Be, by decide, by decide, fun r Hf r0 r1 bf Bf => ?_⟩
  obtain ⟨kf, rfl⟩ := Int.eq_ofNat_of_zero_le r0
  obtain ⟨vz, hvz⟩ : ∃ v, vsM[kf]? = some v := ⟨_, List.getElem?_eq_getElem (show kf < vsM.length by omega)⟩
  obtain ⟨shz, hNz⟩ := OM vz (List.mem_of_getElem? hvz)
  have Nf := hNz.mono bf.hid
  exact ⟨M, _, kf, vz, rfl, rfl, SqL.of (bf _ _ nM fM), atI_nat hvz, q vz none shz Hf (b1.trans ((But.of_same se).trans bf)) Bf Nf.no Nf.sv Nf.ok fun p e => by cases e⟩
end
end Ts
namespace Ts
open PySem PySem.Spec PyProof.Rows L2 L2H LamX
section
variable {P : Program} {w : World} {K : PySem.W.Frag} {mg : Str → Option Value} {base : Heap}
theorem has_right {C : Addr} {c : Cls11} {b3 : Bas3} {cd PT : Addr} (D : DefAtC K mg "_law_right" s__law_right cd) (TB : TabB base mg cd PT) (B : Blt mg) (T : LotC K mg C) (I : LotI K C) (Z : LotNo K C) (N : ErrN mg c b3) (EN : ErrI K c b3 c.n 1 "number") (ES : ErrI K c b3 c.g 4 "standing") (EL : ErrI K c b3 c.l 5 "lot") (EY : ErrI K c b3 c.y 9 "many") (D__law_heard : DefAt K mg "_law_heard" s__law_heard)
    (h__law_class : HasP P w K mg base 2 "_law_class" ["_law_e"] (spClass K c b3)) (RE : ReprR P w K mg base true (ShC K C)) (RO : ReprR P w K mg base false (ShC K C)) (hL : HasM P w K mg base 6 C ["self", "text"] (spInit K C))
    (hx_standings : HasX P w K mg base 5 "standings" ["lot", "moment"] (spTwoX K C c.l c.n c.y (spStandings K C))) (hqx_standings : HasQX P w K mg base 5 "standings" ["lot", "moment"] ["moment", "lot"] back (spTwoX K C c.l c.n c.y (spStandings K C)))
    (hx_alive : HasX P w K mg base 6 "alive" ["lot", "moment"] (spTwoX K C c.l c.n c.y (spAliveL K C))) (hqx_alive : HasQX P w K mg base 6 "alive" ["lot", "moment"] ["moment", "lot"] back (spTwoX K C c.l c.n c.y (spAliveL K C)))
    (hx_choices : HasX P w K mg base 6 "choices" ["lot", "moment", "standing"] (spChoicesX K C c.l c.n c.g c.y (spChoicesL K C))) (hqx_choices : HasQX P w K mg base 6 "choices" ["lot", "moment", "standing"] ["standing", "moment", "lot"] back (spChoicesX K C c.l c.n c.g c.y (spChoicesL K C)))
    (h__law_ladle : Has P w K mg base 1 "_law_ladle" ["_law_basin_here", "_law_many"] spLadle) (h__law_no_lot : Has P w K mg base 3 "_law_no_lot" ["_law_basin_here", "_law_here"] (spNoLot K C)) (h__law_cycle : Has P w K mg base 1 "_law_cycle" ["_law_jobs_here"] (spCycle K))
    (h__law_jobs : Has P w K mg base 3 "_law_jobs" ["_law_basin_here", "_law_most", "_law_deep"] (spJobs K)) (h__law_page : Has P w K mg base 1 "_law_page" ["_law_many", "_law_jobs_here"] (spPage K))
    (h__law_row : Has P w K mg base 2 "_law_row" ["_law_basin_here", "_law_jobs_here", "_law_t"] (spRowK K)) (h__law_is_row : Has P w K mg base 2 "_law_is_row" ["_law_jobs_here", "_law_t", "_law_thing"] (spIsRowK K)) (h__law_within : Has P w K mg base 1 "_law_within" ["_law_thing", "_law_low", "_law_high"] (spIsNumberA K))
    (h__law_same : Has P w K mg base 1 "_law_same" ["_law_told", "_law_due"] (spSame K)) :
    HasG P w K mg base 11 "_law_right" ["_law_basin_here"] (spRightT (lamT PT "_law_right")) := by
  refine D.hasG (fun _ _ _ _ _ _ us hl => match us, hl with | [_], _ => rfl) fun f fd F hcode => fun_gc F hcode sc__law_right (fun vs H Q E h => ?_) (fun A outer s H vs Q hg0 hr h => ?_)
  · obtain ⟨b, rfl, _⟩ := h; rfl
  obtain ⟨b, rfl, hB, hTb, q⟩ := h
  have hg : (A.deeper (envOfC "_law_right" (defScope s__law_right) s.heap.objs.size f (.ref cd))).guards = some [] := hg0
  have hu := hu_of hr
  refine ⟨_, (pss_cons (ps_for PassesOwn.never rfl (pi_range1 (by rfl) B.zrange (pa_cons pe_int pa_nil)) (pg_name (i := 1) sc__law_right.nd rfl (.inl rfl)) (pss_cons (ps_set (i := 2) sc__law_right.nd rfl (.inl rfl) (pe_h h__law_jobs (hr.mono (by decide)) (pa_cons (pv 0) (pa_cons pe_int (pa_cons (pe_ix ix_list (pe_lst (pa_cons pe_int (pa_cons pe_int pa_nil))) (pe_h h__law_ladle (hr.mono (by decide)) (pa_cons (pv 0) (pa_cons pe_int pa_nil))) (fun _ _ => rfl)) pa_nil)))))
      (C8.pss_cut (ps_set (i := 3) sc__law_right.nd rfl (.inl rfl) (pe_ifExp (pt_cmpR op_le (pe_h h__law_cycle (hr.mono (by decide)) (pa_cons (pv 2) pa_nil)) pe_int (nomark _)) (pe_lst pa_nil) (pe_lst (pa_cons pe_str (pa_cons pe_str pa_nil)))))
      (C8.pss_cut (ps_if (PW.pt (pw_and (pt_cmpR (op_eqD (hu64 hr)) (pv 3) (pe_lst pa_nil) (nomark _)) (pw_and1 (pt_cmpR op_gt (pe_h h__law_cycle (hr.mono (by decide)) (pa_cons (pv 2) pa_nil)) pe_int (nomark _))))) (pss_one (ps_set (i := 2) sc__law_right.nd rfl (.inl rfl) (pe_slice sl_list (pv 2) po_none (po_some pe_int)))) pss_nil)
      (pss_cons (ps_set (i := 4) sc__law_right.nd rfl (.inr rfl) (pe_h h__law_no_lot (hr.mono (by decide)) (pa_cons (pv 0) (pa_cons (pe_hm hL T.mgC (hr.mono (by decide)) (pa_cons (pe_h h__law_page (hr.mono (by decide)) (pa_cons (pe_op op_add pe_int (pe_h h__law_ladle (hr.mono (by decide)) (pa_cons (pv 0) (pa_cons pe_int pa_nil)))) (pa_cons (pv 2) pa_nil))) pa_nil)) pa_nil))))
      (pss_cons (ps_set (i := 5) sc__law_right.nd rfl (.inr rfl) (pe_ix ix_list (pe_lst (pa_cons pe_int (pa_cons pe_int (pa_cons (pe_op op_pow pe_int pe_int) (pa_cons (pe_op op_add (pe_op op_pow pe_int pe_int) pe_int) (pa_cons (pe_un un_neg pe_int) (pa_cons pe_bl (pa_cons pe_non (pa_cons pe_str (pa_cons (pe_tup (pa_cons pe_int pa_nil)) (pa_cons pe_int pa_nil))))))))))) (pe_h h__law_ladle (hr.mono (by decide)) (pa_cons (pv 0) (pa_cons pe_int pa_nil))) (fun _ _ => rfl)))
      (pss_cons (ps_set (i := 6) sc__law_right.nd rfl (.inl rfl) (pe_h h__law_within (hr.mono (by decide)) (pa_cons (pv 5) (pa_cons pe_int (pa_cons (pe_op op_pow pe_int pe_int) pa_nil)))))
      (pss_cons (ps_set (i := 7) sc__law_right.nd rfl (.inr rfl) (pe_h h__law_row (hr.mono (by decide)) (pa_cons (pv 0) (pa_cons (pv 2) (pa_cons (pe_ifExp (pt_val (pv 6)) (pv 5) pe_int) pa_nil)))))
      (C8.pss_cut (ps_set (i := 8) sc__law_right.nd rfl (.inl rfl) (pe_ifExp (pt_val (pv 6)) (pe_lst pa_nil) (pe_lst (pa_cons pe_str (pa_cons (pe_callB (call_reprW hg (hu100 hr)) (by rfl) B.zrepr (by decide +kernel) (pa_cons (pv 5) pa_nil)) pa_nil)))))
      (C8.pss_cut (ps_set (i := 8) sc__law_right.nd rfl (.inl rfl) (pe_ifExp (pt_val (pe_callB call_isi (by rfl) B.zisinstance (by decide +kernel) (pa_cons (pv 4) (pa_cons (pe_gref T.mgC) pa_nil)))) (pv 8) (pe_lst (pa_cons pe_str (pa_cons (pe_callB (RO.rule _ rfl rfl rfl rfl rfl hg (roomH_of (hr.mono (by decide))) (fun _ => hr.mono (by decide)) (fun z => by cases z)) (by rfl) B.zrepr (by decide +kernel) (pa_cons (pv 4) pa_nil)) pa_nil)))))
      (pss_cons (ps_set (i := 9) sc__law_right.nd rfl (.inl rfl) (pe_lst (pa_cons (pe_heard2 (k := 8) D__law_heard N B.1 h__law_class RE RO hg (hr.mono (by decide)) (by decide) TB rfl rfl (lamS_by (sc := defScope s__law_right) (by decide +kernel)) (hbody := fun A1 o1 s1 H1 E1 f1 c1 hrL => (pe_x hx_standings (hrL.mono (by decide)) (takes_of (E := E1) rfl rfl rfl rfl) (pa_cons (pv 4) (pa_cons (pv 5) pa_nil))))) pa_nil)))
      (pss_cons (ps_expr (pe_bm PySem.F.plainAttrs_list PySem.F.slot_list_append PySem.F.type_list_append mt_append (pv 9) (pa_cons (pe_heard2 (k := 8) D__law_heard N B.1 h__law_class RE RO hg (hr.mono (by decide)) (by decide) TB rfl rfl (lamS_by (sc := defScope s__law_right) (by decide +kernel)) (hbody := fun A1 o1 s1 H1 E1 f1 c1 hrL => (pe_hqx hqx_standings (hrL.mono (by decide)) (takes_of (E := E1) rfl rfl rfl rfl) (pk_cons (pv 5) (pk_cons (pv 4) pk_nil))))) pa_nil)))
      (pss_cons (ps_expr (pe_bm PySem.F.plainAttrs_list PySem.F.slot_list_append PySem.F.type_list_append mt_append (pv 9) (pa_cons (pe_heard2 (k := 8) D__law_heard N B.1 h__law_class RE RO hg (hr.mono (by decide)) (by decide) TB rfl rfl (lamS_by (sc := defScope s__law_right) (by decide +kernel)) (hbody := fun A1 o1 s1 H1 E1 f1 c1 hrL => (pe_x hx_alive (hrL.mono (by decide)) (takes_of (E := E1) rfl rfl rfl rfl) (pa_cons (pv 4) (pa_cons (pv 5) pa_nil))))) pa_nil)))
      (pss_cons (ps_expr (pe_bm PySem.F.plainAttrs_list PySem.F.slot_list_append PySem.F.type_list_append mt_append (pv 9) (pa_cons (pe_heard2 (k := 8) D__law_heard N B.1 h__law_class RE RO hg (hr.mono (by decide)) (by decide) TB rfl rfl (lamS_by (sc := defScope s__law_right) (by decide +kernel)) (hbody := fun A1 o1 s1 H1 E1 f1 c1 hrL => (pe_hqx hqx_alive (hrL.mono (by decide)) (takes_of (E := E1) rfl rfl rfl rfl) (pk_cons (pv 5) (pk_cons (pv 4) pk_nil))))) pa_nil)))
      (pss_cons (ps_if (pt_not (pt_val (pe_h h__law_same (hr.mono (by decide)) (pa_cons (pv 9) (pa_cons (pe_ifExp (pt_cmpR (op_neD (hu64 hr)) (pv 8) (pe_lst pa_nil) (nomark _)) (pv 8) (pv 3)) pa_nil))))) (pss_one (ps_ret pe_bl)) pss_nil)
      (C8.pss_cut (ps_if (PW.pt (pw_and (pt_cmpR (op_eqD (hu64 hr)) (pv 8) (pe_lst pa_nil) (nomark _)) (pw_and1 (pt_not (pt_val (pe_h h__law_is_row (hr.mono (by decide)) (pa_cons (pv 2) (pa_cons (pv 5) (pa_cons (pv 7) pa_nil))))))))) (pss_one (ps_set (i := 8) sc__law_right.nd rfl (.inl rfl) (pe_lst (pa_cons pe_str (pa_cons (pe_callB (call_reprW hg (hu100 hr)) (by rfl) B.zrepr (by decide +kernel) (pa_cons (pv 7) pa_nil)) pa_nil))))) pss_nil)
      (pss_cons (ps_set (i := 9) sc__law_right.nd rfl (.inl rfl) (pe_lst (pa_cons (pe_heard2 (k := 8) D__law_heard N B.1 h__law_class RE RO hg (hr.mono (by decide)) (by decide) TB rfl rfl (lamS_by (sc := defScope s__law_right) (by decide +kernel)) (hbody := fun A1 o1 s1 H1 E1 f1 c1 hrL => (pe_x hx_choices (hrL.mono (by decide)) (takes_of (E := E1) rfl rfl rfl rfl) (pa_cons (pv 4) (pa_cons (pv 5) (pa_cons (pv 7) pa_nil)))))) pa_nil)))
      (pss_cons (ps_expr (pe_bm PySem.F.plainAttrs_list PySem.F.slot_list_append PySem.F.type_list_append mt_append (pv 9) (pa_cons (pe_heard2 (k := 8) D__law_heard N B.1 h__law_class RE RO hg (hr.mono (by decide)) (by decide) TB rfl rfl (lamS_by (sc := defScope s__law_right) (by decide +kernel)) (hbody := fun A1 o1 s1 H1 E1 f1 c1 hrL => (pe_hqx hqx_choices (hrL.mono (by decide)) (takes_of (E := E1) rfl rfl rfl rfl) (pk_cons (pv 7) (pk_cons (pv 5) (pk_cons (pv 4) pk_nil)))))) pa_nil)))
      (pss_one (ps_if (pt_not (pt_val (pe_h h__law_same (hr.mono (by decide)) (pa_cons (pv 9) (pa_cons (pe_ifExp (pt_cmpR (op_neD (hu64 hr)) (pv 8) (pe_lst pa_nil) (nomark _)) (pv 8) (pv 3)) pa_nil))))) (pss_one (ps_ret pe_bl)) pss_nil))))))))))))))))))))
      (pss_one (ps_ret pe_bl))), ?_⟩
  have plainC : ∀ {s : Str}, (s.cps.toList.all fun c => decide (c < 128)) = true → Plain s := fun h c hc => of_decide_eq_true (List.all_eq_true.mp h c hc)
  refine ⟨4, rfl, by decide, by decide, for_range (lo := 0) (n := 4) (fun i σ Hn => Ext2 b H Hn ∧ Bas Hn b ∧ Tabs (lamT PT "_law_right") Hn ∧ ∃ v1 v2 v3 v4 v5 v6 v7 v8 v9, σ = [some (.ref b), v1, v2, v3, v4, v5, v6, v7, v8, v9])
    ⟨Ext2.refl, hB, hTb, _, _, _, _, _, _, _, _, _, rfl⟩ ?_ ?_⟩
  · rintro i σ H0 hi ⟨x0, B0, T0, v1, v2, v3, v4, v5, v6, v7, v8, v9, rfl⟩
    dsimp only [List.set]
    -- the works
    refine ⟨_, rfl, by show 2 ≤ sizeLine; decide, fun ls hls => ?_⟩
    have nls : ls ≠ b := B0.off hls
    have sls : Same H0 (upd H0 ls (.lst [.int 16, .int 6])) := same_new hls
    have els : (upd H0 ls (.lst [.int 16, .int 6])) ls = some (.lst [.int 16, .int 6]) := upd_same
    revert sls els
    generalize upd H0 ls (.lst [.int 16, .int 6]) = H1
    intro sls els
    refine ⟨_, rfl, b, 2, rfl, B0.on sls, by decide, by decide, fun r H2 r0 r1 b2 B2 => ?_⟩
    obtain ⟨k1, rfl⟩ := Int.eq_ofNat_of_zero_le r0
    obtain ⟨dd, hk1, hd0, hd1⟩ : ∃ dd : Nat, ([.int 16, .int 6] : List V)[k1]? = some (.int (dd : Int)) ∧ 0 < dd ∧ dd ≤ 16 := by
      have : k1 = 0 ∨ k1 = 1 := by omega
      rcases this with rfl | rfl
      · exact ⟨16, rfl, by decide, by decide⟩
      · exact ⟨6, rfl, by decide, by decide⟩
    refine ⟨ls, _, k1, _, rfl, rfl, SqL.of (b2 _ _ nls els), atI_nat hk1, b, 4, dd, rfl, B2, by decide, by decide, hd0, by omega, fun js0 p0 xs H3 l0 l4 G0 hp b3 B3 e3 hA3 => ?_⟩
    have np0 : p0 ≠ b := B2.off hp
    have G1 : Good 16 js0 := G0.mono hd1
    have b30 := ((But.of_same sls).trans b2).trans b3
    have hxl : xs.length = js0.length := by rw [hA3.length, List.length_map]
    clear hk1 els nls hls sls b2 B2 b3 r0 r1 hp
    dsimp only [List.set]
    -- too many ticks in a round
    refine ⟨fun σ Hn => ∃ bl, bl ≠ b ∧ Same H3 Hn ∧ Hn bl = some (.lst (dueV (dueR (some (0, js0))))) ∧ σ = [some (.ref b), some (.int (0 + (i : Int))), some (.ref p0), some (.ref bl), v4, v5, v6, v7, v8, v9], ?_, ?_⟩
    · refine ⟨_, rfl, p0, js0, rfl, .lst (SqL.of e3) (hA3.mono hid_sub), G1, fun H4 s4 => ⟨_, _, rfl, rfl, _, rfl, ite2 (fun c => ?_) (fun c => ?_)⟩⟩
      · have c2 : ((spanN js0 : Nat) : Int) ≤ 720 := of_decide_eq_true c
        refine ⟨by show 0 ≤ sizeLine; decide, fun bl hbl => ⟨bl, (B3.on s4).off hbl, s4.trans (same_new hbl), ?_, rfl⟩⟩
        rw [upd_same, dueR_le (by omega)]; rfl
      · have c2 : ¬ ((spanN js0 : Nat) : Int) ≤ 720 := fun z => c (decide_eq_true z)
        refine ⟨by show 2 ≤ sizeLine; decide, fun bl hbl => ⟨bl, (B3.on s4).off hbl, s4.trans (same_new hbl), ?_, rfl⟩⟩
        rw [upd_same, dueR_gt (by omega)]; rfl
    rintro σ H4 ⟨bl, nbl, s4, e4, rfl⟩
    have B4 := B3.on s4
    have b40 := b30.trans' s4
    have e4p := s4 _ _ e3
    have hA4 := hA3.mono (hid_same (b := b) s4)
    clear s4 e3 hA3 B3 b30
    -- not too long a round
    refine ⟨fun σ Hn => ∃ (js : List Job) (p : Addr) (ys : List V), 0 < js.length ∧ js.length ≤ 4 ∧ Good 16 js ∧ dueR (some (0, js)) = dueR (some (0, js0)) ∧ Same H4 Hn ∧ p ≠ b ∧ Hn p = some (.lst ys) ∧ DpAll K (hid b Hn) ys (js.map jobD) ∧ σ = [some (.ref b), some (.int (0 + (i : Int))), some (.ref p), some (.ref bl), v4, v5, v6, v7, v8, v9], ?_, ?_⟩
    · refine ⟨_, rfl, by show 0 ≤ sizeLine; decide, fun q0 hq0 => ?_⟩
      have s5 : Same H4 (upd H4 q0 (.lst [])) := same_new hq0
      have e5 : (upd H4 q0 (.lst [])) q0 = some (.lst []) := upd_same
      revert s5 e5
      generalize upd H4 q0 (.lst []) = H5
      intro s5 e5
      obtain ⟨D5, a1, a2, a3⟩ := due_test (K := K) (s5 _ _ e4) dueR_ok
      refine ⟨D5, .list [], a1, .lst (SqL.of e5) .nil, a2, by decide, _, rfl, ?_⟩
      rw [a3]
      have keep : ∃ (js : List Job) (p : Addr) (ys : List V), 0 < js.length ∧ js.length ≤ 4 ∧ Good 16 js ∧ dueR (some (0, js)) = dueR (some (0, js0)) ∧ Same H4 H5 ∧ p ≠ b ∧ H5 p = some (.lst ys) ∧ DpAll K (hid b H5) ys (js.map jobD) ∧ [some (V.ref b), some (.int (0 + (i : Int))), some (.ref p0), some (.ref bl), v4, v5, v6, v7, v8, v9] = [some (.ref b), some (.int (0 + (i : Int))), some (.ref p), some (.ref bl), v4, v5, v6, v7, v8, v9] :=
        ⟨js0, p0, xs, l0, l4, G1, rfl, s5, np0, s5 _ _ e4p, hA4.mono (hid_same (b := b) s5), rfl⟩
      cases ed : dueR (some (0, js0)) with
      | some x => exact iteF (iteF (by rw [ed] at keep; exact keep))
      | none =>
        refine iteT ⟨_, rfl, p0, js0, rfl, .lst (SqL.of (s5 _ _ e4p)) ((hA4.mono (hid_same (b := b) s5)).mono hid_sub), G1, fun H6 s6 => ⟨_, _, rfl, rfl, _, rfl, ite2 (fun c => ?_) (fun c => ?_)⟩⟩
        · have e6 := s6 _ _ (s5 _ _ e4p)
          refine ⟨_, rfl, _, rfl, p0, xs, rfl, SqL.of e6, fun p2 hp2 => ?_⟩
          have s7 : Same H4 (upd H6 p2 (.lst (cutV xs none (some ((1 : Nat) : Int))))) := (s5.trans s6).trans (same_new hp2)
          have n2 : p2 ≠ b := (B4.on (s5.trans s6)).off hp2
          have l1 : (js0.take 1).length = 1 := by rw [List.length_take]; omega
          have s16 := span_one (G1.take (i := 1)) l1
          refine ⟨js0.take 1, p2, xs.take 1, by omega, by omega, G1.take, ?_, s7, n2, ?_, ?_, rfl⟩
          · exact dueR_le (by omega)
          · rw [← cut_to (i := 1) (by omega)]; exact upd_same
          · rw [List.map_take]; exact dp_take _ (hA4.mono (hid_same (b := b) s7))
        · rw [ed] at keep
          obtain ⟨js, p, ys, k1, k2, k3, k4, k5, k6, k7, k8, k9⟩ := keep
          exact ⟨js, p, ys, k1, k2, k3, k4, k5.trans s6, k6, s6 _ _ k7, k8.mono (hid_same (b := b) s6), k9⟩
    clear e4p hA4 l0 l4 G0 G1 np0 hxl
    rintro σ H5 ⟨js, p, ys, l0, l4, G, ed, s5, np, e5, hA5, rfl⟩
    rw [← ed] at e4
    have e5b := s5 _ _ e4
    have B5 := B4.on s5
    have b50 := b40.trans' s5
    have l6 : js.length ≤ 6 := by omega
    clear s5 e4 ed B4 b40 xs p0 js0
    -- the lot, or none
    refine ⟨_, rfl, _, rfl, b, 6, rfl, B5, by decide, by decide, fun r H6 r0 r1 b6 B6 => ?_⟩
    obtain ⟨n0, rfl⟩ := Int.eq_ofNat_of_zero_le r0
    obtain ⟨n, hn⟩ : ∃ n : Nat, (1 : Int) + (n0 : Int) = (n : Int) := ⟨1 + n0, by omega⟩
    have n6 : n ≤ 6 := by omega
    have n7 : 1 ≤ n := by omega
    have e6 := b6 _ _ np e5
    have e6b := b6 _ _ nbl e5b
    have D6 : Dp K H6 (.ref p) (jobsD js) := .lst (SqL.of e6) ((hA5.mono b6.hid).mono hid_sub)
    refine ⟨_, _, rfl, rfl, _, rfl, n, p, js, by dsimp only; rw [hn]; rfl, by omega, by omega, G.mono (by decide), D6, fun H7 s7 => ?_⟩
    intro x dx hx hdx hnx
    refine ⟨x, dx, n, js, rfl, upd_same, n7, n6, G, l0, l6, fun H8 b8 L8 => ⟨rfl, ?_⟩⟩
    have s8 := s7.trans (lot_same b8 hx hdx)
    have B8 := B6.on s8
    have e8 := s8 _ _ e6
    have e8b := s8 _ _ e6b
    have A8 := (hA5.mono b6.hid).mono (hid_same (b := b) s8)
    have b80 := (b50.trans b6).trans' s8
    obtain ⟨z1, z2, z3, eB8⟩ := id B8
    refine ⟨b, x, n, js, rfl, B8, L8.hide eB8, G, l6, n6, fun vl ol svl H9 b9 B9 hol hsl okl hpr => ?_⟩
    have e9 := b9 _ _ np e8
    have e9b := b9 _ _ nbl e8b
    have A9 := A8.mono b9.hid
    have b90 := b80.trans b9
    have hGl : ∀ n js', ol = some (n, js') → Good 16 js' ∧ js'.length ≤ 6 ∧ n ≤ 6 := fun n' js' e => by have := hpr _ e; cases this; exact ⟨G, l6, n6⟩
    have hJl : ∀ n' js', ol = some (n', js') → js' = js := fun n' js' e => by have := hpr _ e; cases this; rfl
    clear eB8 z1 z2 z3 hpr L8 b8 hx hdx hnx s7 s8 D6 e8 e8b A8 e6 e6b hA5 B5 b50 b6 B6 B8 b80 b9 r0 r1 hn e5 e5b
    dsimp only [List.set]
    -- a moment, or none
    refine ⟨_, _, rfl, rfl, ⟨by decide, by decide, by decide⟩, _, _, rfl, rfl, ⟨by decide, by decide, by decide⟩, _, _, rfl, rfl, _, rfl, by show 1 ≤ sizeLine; decide, fun a1 h1 => ⟨by show 10 ≤ sizeLine; decide, fun M hM => ?_⟩⟩
    show tCall spLadle [] E0 (tCons (tVar 0) (tCons (tC (V.int 10)) tNil)) _ (upd (upd H9 a1 (.tup [.int 1])) M (.lst [.int 0, .int 1, .int ((10 : Int) ^ (30 : Int).toNat), .int ((10 : Int) ^ (30 : Int).toNat + 1), .int (-1), .bl true, .non, .str "1", .ref a1, .int 7])) _
    refine at_heap2 (fun Hx => Same H9 Hx ∧ Hx a1 = some (.tup [.int 1]) ∧ Hx M = some (.lst [.int 0, .int 1, .int ((10 : Int) ^ (30 : Int).toNat), .int ((10 : Int) ^ (30 : Int).toNat + 1), .int (-1), .bl true, .non, .str "1", .ref a1, .int 7])) ⟨(same_new h1).trans (same_new hM), same_new hM _ _ upd_same, upd_same⟩ ?_
    rintro Ha ⟨sa, f1, fM⟩
    have na1 : a1 ≠ b := B9.off h1
    have nM : M ≠ b := (B9.on (same_new h1)).off hM
    clear hM h1
    have OM : OddAll K (hid b Ha) [.int 0, .int 1, .int ((10 : Int) ^ (30 : Int).toNat), .int ((10 : Int) ^ (30 : Int).toNat + 1), .int (-1), .bl true, .non, .str "1", .ref a1, .int 7] :=
      .cons (OddV.dec (d := .int 0) (.int _) (by decide +kernel) trivial) (.cons (OddV.dec (d := .int 1) (.int _) (by decide +kernel) trivial) (.cons (OddV.dec (d := .int ((10 : Int) ^ (30 : Int).toNat)) (.int _) (by decide +kernel) trivial) (.cons (OddV.dec (d := .int ((10 : Int) ^ (30 : Int).toNat + 1)) (.int _) (by decide +kernel) trivial)
        (.cons (OddV.dec (d := .int (-1)) (.int _) (by decide +kernel) trivial) (.cons (OddV.dec (d := .bool true) (.bl _) (by decide +kernel) trivial) (.cons (OddV.dec (d := .none) .non (by decide +kernel) trivial) (.cons (OddV.dec (d := .str "1") (.str _) (by decide +kernel) ⟨by decide +kernel, by decide +kernel⟩)
        (.cons (OddV.dec (d := .tuple [.int 1]) (.tup (SqT.of ((hid_ne na1).trans f1)) (.cons (.int _) .nil)) (by decide +kernel) (show 1 ≤ 100 by decide)) (.cons (OddV.dec (d := .int 7) (.int _) (by decide +kernel) trivial) .nil)))))))))
    have lsM : ([.int 0, .int 1, .int ((10 : Int) ^ (30 : Int).toNat), .int ((10 : Int) ^ (30 : Int).toNat + 1), .int (-1), .bl true, .non, .str "1", .ref a1, .int 7] : List V).length = 10 := rfl
    revert OM lsM fM
    generalize ([.int 0, .int 1, .int ((10 : Int) ^ (30 : Int).toNat), .int ((10 : Int) ^ (30 : Int).toNat + 1), .int (-1), .bl true, .non, .str "1", .ref a1, .int 7] : List V) = vsM
    intro fM OM lsM
    have Ba := B9.on sa
    clear f1 na1
    refine ⟨_, rfl, b, 10, rfl, Ba, by decide, by decide, fun r Hb r0 r1 bb Bb => ?_⟩
    obtain ⟨kt, rfl⟩ := Int.eq_ofNat_of_zero_le r0
    obtain ⟨vt, hvt⟩ : ∃ v, vsM[kt]? = some v := ⟨_, List.getElem?_eq_getElem (show kt < vsM.length by omega)⟩
    obtain ⟨ot, sht, hOt⟩ := OM vt (List.mem_of_getElem? hvt)
    refine ⟨M, _, kt, vt, rfl, rfl, SqL.of (bb _ _ nM fM), atI_nat hvt, ?_⟩
    have OTb := hOt.mono bb.hid
    have b9b := (But.of_same sa).trans bb
    have eb := b9b _ _ np e9
    have ebb := b9b _ _ nbl e9b
    have Ab := A9.mono b9b.hid
    have holb := hol.mono b9b.hid
    have hslb := hsl.mono b9b.hid
    have b0b := b90.trans b9b
    clear hOt hvt OM lsM fM nM sa bb Ba b9b e9 e9b A9 hol hsl b90 B9 r0 r1
    dsimp only [List.set]
    -- is it one
    refine ⟨_, rfl, _, _, rfl, rfl, ⟨by decide, by decide, by decide⟩, vt, 0, _, ot.bind kindD, rfl, (OTb.mono hid_sub).av.kind, ?_⟩
    have eR : inRg (ot.bind kindD) 0 ((10 : Int) ^ (30 : Int).toNat) = inRg (ot.bind kindD) 0 (10 ^ 30) := rfl
    rw [eR]
    dsimp only [List.set]
    -- the row
    have hz : ∃ z : Int, (inRg (ot.bind kindD) 0 (10 ^ 30) = true → vt = .int z ∧ ot.bind kindD = some z) ∧ 0 ≤ z ∧ z ≤ 10 ^ 30 := by
      cases e : inRg (ot.bind kindD) 0 (10 ^ 30) with
      | false => exact ⟨0, (fun h => by cases h), by decide, by decide⟩
      | true =>
        obtain ⟨z, ez, z1, z2⟩ := inRg_is e
        have hk := (OTb.av).kind
        rw [ez] at hk
        exact ⟨z, fun _ => ⟨hk, ez⟩, z1, z2⟩
    obtain ⟨z, hz, z0, z1⟩ := hz
    refine ⟨_, rfl, _, rfl, _, rfl, _, rfl, iteZ (z := z) (fun c R hR => ⟨_, rfl, by rw [(hz c).1]; exact hR⟩) ?_⟩
    refine ⟨b, p, js, _, rfl, Bb, .lst (SqL.of ((hid_ne np).trans eb)) Ab, G, l0, l6, by split; exact z0; decide, by split; exact z1; decide, fun vr o3 shr Hc bc Bc hOr => ?_⟩
    have bbc := b0b.trans bc
    have Te := tabs_but T0 B0 bbc
    have xe := x0.trans (Ext2.but bbc)
    have ec := bc _ _ np eb
    have ecb := bc _ _ nbl ebb
    have DJ : Dp K (hid2 b Hc) (.ref p) (jobsD js) := dp_ext hid_in2 _ _ (.lst (SqL.of ((hid_ne np).trans ec)) (Ab.mono bc.hid))
    have OT := (OTb.mono bc.hid).ext hid_in2
    have OR := hOr.ext hid_in2
    have ho := (holb.mono bc.hid).ext hid_in2
    have hs := (hslb.mono bc.hid).ext hid_in2
    clear hOr hslb holb Ab eb ebb bc b0b Bb OTb ec np nbl bbc x0 T0 B0
    dsimp only [List.set]
    -- a number is due
    refine ⟨fun σ Hn => ∃ dl, Same Hc Hn ∧ Hn dl = some (.lst (dueV (if inRg (ot.bind kindD) 0 (10 ^ 30) = false then some (("number" : Str), sht) else none))) ∧ σ = [some (.ref b), some (.int (0 + (i : Int))), some (.ref p), some (.ref bl), some vl, some vt, some (.bl (inRg (ot.bind kindD) 0 (10 ^ 30))), some vr, some (.ref dl), v9], ?_, ?_⟩
    · refine ⟨_, rfl, _, rfl, ?_⟩
      cases ek : inRg (ot.bind kindD) 0 (10 ^ 30) with
      | true => exact iteT ⟨by show 0 ≤ sizeLine; decide, fun dl hdl => ⟨dl, same_new hdl, upd_same, rfl⟩⟩
      | false => exact iteF ⟨_, rfl, _, sht, rfl, (OT.mono hid2_sub).sv, by show 2 ≤ sizeLine; decide, fun dl hdl => ⟨dl, same_new hdl, upd_same, rfl⟩⟩
    rintro σ Hf ⟨dl1, sf, ef, rfl⟩
    -- a lot is due
    refine ⟨fun σ Hn => ∃ dl, Same Hf Hn ∧ Hn dl = some (.lst (dueV (dueM ol (ot.bind kindD) svl sht))) ∧ σ = [some (.ref b), some (.int (0 + (i : Int))), some (.ref p), some (.ref bl), some vl, some vt, some (.bl (inRg (ot.bind kindD) 0 (10 ^ 30))), some vr, some (.ref dl), v9], ?_, ?_⟩
    · have hof := (ho.mono hid2_sub).mono sf
      have hsf := (hs.mono hid2_sub).mono sf
      cases ol with
      | some pr =>
        obtain ⟨a, rfl, La⟩ := hof
        obtain ⟨dx, pn, pS, pt, hax, _⟩ := id La.ex
        exact ⟨_, rfl, _, _, _, _, _, rfl, .own C, .base (.ins hax T.cl I.ha I.hn I.htk I.hm), kit_self, true, rfl, iteT ⟨_, rfl, dl1, Same.refl _, ef, rfl⟩⟩
      | none =>
        obtain ⟨T9, hT9, ht9⟩ := hof
        exact ⟨_, rfl, _, _, _, _, _, rfl, .own C, ht9, Z.no _ hT9, false, rfl, iteF ⟨_, rfl, _, svl, rfl, hsf, by show 2 ≤ sizeLine; decide, fun dl hdl => ⟨dl, same_new hdl, upd_same, rfl⟩⟩⟩
    rintro σ Hg ⟨dl, sg, eg, rfl⟩
    have sfg := sf.trans sg
    have Bg := Bc.on sfg
    have Tg := Te.ext sfg
    have xg := xe.trans (Ext2.same sfg)
    have egb := sfg _ _ ecb
    have hog := ho.mono (hid2_same (b := b) sfg)
    have hsg := hs.mono (hid2_same (b := b) sfg)
    have OTg := OT.mono (hid2_same (b := b) sfg)
    have ORg := OR.mono (hid2_same (b := b) sfg)
    have DJg := DJ.mono (hid2_same (b := b) sfg)
    clear ef sf sg sfg ho hs OT OR DJ ecb xe Te Bc dl1
    have okM := dueM_ok (o := ol) (k := ot.bind kindD) okl OTg.ok
    have okR : ∀ x, dueR ol = some x → PyData.strOk x.1 = true ∧ PyData.strOk x.2 = true := dueR_ok
    have eor : orD (dueM ol (ot.bind kindD) svl sht) (dueR (some (0, js))) = orD (dueM ol (ot.bind kindD) svl sht) (dueR ol) := by
      cases e : dueM ol (ot.bind kindD) svl sht with
      | some x => rfl
      | none =>
        obtain ⟨⟨n', js'⟩, e', _⟩ := dueM_some e
        cases hJl _ _ e'
        rw [e']; rfl
    have heard : ∀ {sp0 : Sp} (hs0 : ∀ Hm, LotOr K C Hm vl ol → OddV K Hm vt ot sht → ∀ n js, ol = some (n, js) → inRg (ot.bind kindD) 0 (10 ^ 30) = true → spanN js ≤ 720 → ∀ (Q0 : VK) (E0 : XK), (∀ (x : V) (H' : Hp) (d : PyData), Same Hm H' → Dp K H' x d → Fine 60000 2 d → Q0 x H') → sp0 [vl, vt] Hm Q0 E0)
        {tl : XK → Hp → VK → Prop} {Hn Hm : Hp} {Qv : VK}, Same (hid2 b Hg) (hid2 b Hn) → ExtN Hn Hm →
        (∀ E' Q', spTwoX K C c.l c.n c.y sp0 [vl, vt] Hm Q' E' → tl E' Hm Q') →
        (∀ (w : Str × Str) (l : Addr) (H2 : Hp), Same Hm H2 → Fits (orD (dueM ol (ot.bind kindD) svl sht) (dueR ol)) w → H2 l = some (.lst [.str w.1, .str w.2]) → Qv (.ref l) H2) → TTheard2 K c b3 (ShC K C) (ShC K C) tl Hm Qv := fun {sp0} hs0 {tl Hn Hm Qv} sn y htl q => by
      have kk : Same (hid2 b Hg) (hid2 b Hm) := sn.trans (hid2_ext y)
      have hvm := (hog.mono kk).mono hid2_sub
      have htm := (OTg.mono kk).mono hid2_sub
      exact tt_two RE EL EN EY hvm ((hsg.mono kk).mono hid2_sub) htm (hs0 _ hvm htm) htl q
    have hS0 := fun Hm (hv : LotOr K C Hm vl ol) (ht : OddV K Hm vt ot sht) => succ_stand hv hGl ht
    have hA0 := fun Hm (hv : LotOr K C Hm vl ol) (ht : OddV K Hm vt ot sht) => succ_alive hv hGl ht
    refine ⟨Tg, fun H13 y13 T13 => heard hS0 (fun _ _ z => z) y13 (fun E' Q' h => ⟨_, rfl, _, rfl, h⟩) fun w1 l1 H14 s14 F1 g1 => ⟨by show 1 ≤ sizeLine; decide, fun lt hlt => ?_⟩⟩
    refine at_heap2 (fun Hx => Ph (lamT PT "_law_right") b lt (orD (dueM ol (ot.bind kindD) svl sht) (dueR ol)) Hg Hx [.ref l1] [w1]) (Ph.first Bg y13 T13 s14 F1 g1 hlt) ?_
    clear hlt g1 s14 y13 T13 H13 H14
    rintro H8 P8
    dsimp only [List.set]
    refine ⟨_, rfl, .inl ⟨rfl, _, SqL.of P8.l⟩, P8.T, fun H13 y13 T13 => heard hS0 P8.kept y13 (fun E' Q' h => ⟨_, rfl, _, rfl, rfl, h⟩) fun w2 l2 H14 s14 F2 g2 => ?_⟩
    refine ⟨lt, _, _, rfl, rfl, s14 _ _ (y13 _ _ P8.l fun _ z => by cases z), small1000 (by show 1 ≤ 1000; decide), ?_⟩
    refine at_heap (fun Hx => Ph (lamT PT "_law_right") b lt (orD (dueM ol (ot.bind kindD) svl sht) (dueR ol)) Hg Hx [.ref l1, .ref l2] [w1, w2]) (P8.next y13 T13 s14 F2 g2) ?_
    clear g2 s14 y13 T13 H13 H14 P8 H8
    rintro H8 P8
    refine ⟨_, rfl, .inl ⟨rfl, _, SqL.of P8.l⟩, P8.T, fun H13 y13 T13 => heard hA0 P8.kept y13 (fun E' Q' h => ⟨_, rfl, _, rfl, h⟩) fun w3 l3 H14 s14 F3 g3 => ?_⟩
    refine ⟨lt, _, _, rfl, rfl, s14 _ _ (y13 _ _ P8.l fun _ z => by cases z), small1000 (by show 2 ≤ 1000; decide), ?_⟩
    refine at_heap (fun Hx => Ph (lamT PT "_law_right") b lt (orD (dueM ol (ot.bind kindD) svl sht) (dueR ol)) Hg Hx [.ref l1, .ref l2, .ref l3] [w1, w2, w3]) (P8.next y13 T13 s14 F3 g3) ?_
    clear g3 s14 y13 T13 H13 H14 P8 H8
    rintro H8 P8
    refine ⟨_, rfl, .inl ⟨rfl, _, SqL.of P8.l⟩, P8.T, fun H13 y13 T13 => heard hA0 P8.kept y13 (fun E' Q' h => ⟨_, rfl, _, rfl, rfl, h⟩) fun w4 l4' H14 s14 F4 g4 => ?_⟩
    refine ⟨lt, _, _, rfl, rfl, s14 _ _ (y13 _ _ P8.l fun _ z => by cases z), small1000 (by show 3 ≤ 1000; decide), ?_⟩
    refine at_heap (fun Hx => Ph (lamT PT "_law_right") b lt (orD (dueM ol (ot.bind kindD) svl sht) (dueR ol)) Hg Hx [.ref l1, .ref l2, .ref l3, .ref l4'] [w1, w2, w3, w4]) (P8.next y13 T13 s14 F4 g4) ?_
    clear g4 s14 y13 T13 H13 H14 P8 H8 heard hS0 hA0
    rintro H8 P8
    -- the first same
    have egb8 := P8.x _ _ egb (fun _ z => by cases z)
    have eg8 := P8.x _ _ eg (fun _ z => by cases z)
    refine ⟨_, rfl, _, rfl, by show 0 ≤ sizeLine; decide, fun q0 hq0 => ?_⟩
    have s9 : Same H8 (upd H8 q0 (.lst [])) := same_new hq0
    have e9 : (upd H8 q0 (.lst [])) q0 = some (.lst []) := upd_same
    revert s9 e9
    generalize upd H8 q0 (.lst []) = H9
    intro s9 e9
    obtain ⟨D9, a1, a2, a3⟩ := due_test (K := K) (s9 _ _ eg8) okM
    refine ⟨D9, .list [], a1, .lst (SqL.of e9) .nil, a2, by decide, _, rfl, ?_⟩
    rw [a3]
    refine iteV (a := dl) (a' := bl) (fun R hR => ⟨_, rfl, hR⟩) (fun R hR => ⟨_, rfl, hR⟩) ?_
    have ed9 := due_or (s9 _ _ eg8) (s9 _ _ egb8)
    rw [eor] at ed9
    refine ⟨lt, _, _, _, _, rfl, s9 _ _ P8.l, (P8.ps.mono hid2_sub).mono s9, by show 4 ≤ 8; decide, ed9, P8.fs, orD_ok okM okR, fun Ha sa => ⟨true, rfl, iteF ?_⟩⟩
    have s8a := s9.trans sa
    have ya := P8.x.trans (ExtN.of s8a)
    have Sa : Same (hid2 b Hg) (hid2 b Ha) := P8.kept.trans (hid2_same (b := b) s8a)
    have Ba := P8.B.on s8a
    have Ta := P8.T.ext s8a
    have xa := xg.trans (Ext2.ext ya)
    have ega := s8a _ _ eg8
    have egba := s8a _ _ egb8
    have hoa := hog.mono Sa
    have hsa := hsg.mono Sa
    have OTa := OTg.mono Sa
    have ORa := ORg.mono Sa
    have DJa := DJg.mono Sa
    clear ya Sa s8a sa ed9 a1 a2 a3 D9 e9 s9 hq0 eg8 egb8 P8 hog hsg OTg ORg DJg egb eg Bg Tg xg F1 F2 F3 F4
    dsimp only [List.set]
    -- a standing is due
    refine ⟨fun σ Hn => ∃ dl, Same Ha Hn ∧ Hn dl = some (.lst (dueV (dueS ol (ot.bind kindD) o3 svl sht shr))) ∧ σ = [some (.ref b), some (.int (0 + (i : Int))), some (.ref p), some (.ref bl), some vl, some vt, some (.bl (inRg (ot.bind kindD) 0 (10 ^ 30))), some vr, some (.ref dl), some (.ref lt)], ?_, ?_⟩
    · refine ⟨_, rfl, by show 0 ≤ sizeLine; decide, fun p0 hp0 => ?_⟩
      have s12 : Same Ha (upd Ha p0 (.lst [])) := same_new hp0
      have e12 : (upd Ha p0 (.lst [])) p0 = some (.lst []) := upd_same
      revert s12 e12
      generalize upd Ha p0 (.lst []) = H12
      intro s12 e12
      obtain ⟨D12, a1', a2', a3'⟩ := due_test (K := K) (s12 _ _ ega) okM
      refine ⟨D12, .list [], a1', .lst (SqL.of e12) .nil, a2', by decide, _, rfl, ?_⟩
      rw [a3']
      cases e2 : dueM ol (ot.bind kindD) svl sht with
      | some xx => exact iteF (iteF ⟨dl, s12, by rw [s12 _ _ ega]; unfold dueS; rw [e2], rfl⟩)
      | none =>
        obtain ⟨⟨n', js'⟩, eo, ek⟩ := dueM_some e2
        obtain rfl := hJl _ _ eo
        obtain ⟨rfl, ez⟩ := hz ek
        have dS : dueS ol (ot.bind kindD) o3 svl sht shr = if stB js' z o3 = false then some (("standing" : Str), shr) else none := by
          unfold dueS
          rw [e2, eo, ez]
        refine iteT ⟨_, rfl, _, rfl, _, rfl, p, js', z, vr, o3, rfl, (DJa.mono hid2_sub).mono s12, G, l6, z0, z1, (ORa.mono hid2_sub).av.mono s12, fun H13 s13 => ⟨_, rfl, ?_⟩⟩
        cases est : stB js' z o3 with
        | true => exact iteF ⟨dl, s12.trans s13, by rw [s13 _ _ (s12 _ _ ega), dS, est, e2]; rfl, rfl⟩
        | false => exact iteT ⟨_, rfl, _, shr, rfl, ((ORa.mono hid2_sub).sv.mono s12).mono s13, by show 2 ≤ sizeLine; decide, fun dl hdl => ⟨dl, (s12.trans s13).trans (same_new hdl), by rw [upd_same, dS, est]; rfl, rfl⟩⟩
    rintro σ Hg ⟨dl2, sg, eg, rfl⟩
    have Bg := Ba.on sg
    have Tg := Ta.ext sg
    have xg := xa.trans (Ext2.same sg)
    have egb := sg _ _ egba
    have hog := hoa.mono (hid2_same (b := b) sg)
    have hsg := hsa.mono (hid2_same (b := b) sg)
    have OTg := OTa.mono (hid2_same (b := b) sg)
    have ORg := ORa.mono (hid2_same (b := b) sg)
    clear sg ega egba hoa hsa OTa ORa DJa Ba Ta xa dl
    have okS := dueS_ok (o := ol) (k := ot.bind kindD) (r := o3) okl OTg.ok ORg.ok
    have eor2 : orD (dueS ol (ot.bind kindD) o3 svl sht shr) (dueR (some (0, js))) = orD (dueS ol (ot.bind kindD) o3 svl sht shr) (dueR ol) := by
      cases e : dueS ol (ot.bind kindD) o3 svl sht shr with
      | some x => rfl
      | none =>
        have eM : dueM ol (ot.bind kindD) svl sht = none := by
          unfold dueS at e
          split at e
          · cases e
          · assumption
        obtain ⟨⟨n', js'⟩, e', _⟩ := dueM_some eM
        cases hJl _ _ e'
        rw [e']; rfl
    have heard : ∀ {tl : XK → Hp → VK → Prop} {Hn Hm : Hp} {Qv : VK}, Same (hid2 b Hg) (hid2 b Hn) → ExtN Hn Hm →
        (∀ E' Q', spChoicesX K C c.l c.n c.g c.y (spChoicesL K C) [vl, vt, vr] Hm Q' E' → tl E' Hm Q') →
        (∀ (w : Str × Str) (l : Addr) (H2 : Hp), Same Hm H2 → Fits (orD (dueS ol (ot.bind kindD) o3 svl sht shr) (dueR ol)) w → H2 l = some (.lst [.str w.1, .str w.2]) → Qv (.ref l) H2) → TTheard2 K c b3 (ShC K C) (ShC K C) tl Hm Qv := fun {tl Hn Hm Qv} sn y htl q => by
      have kk : Same (hid2 b Hg) (hid2 b Hm) := sn.trans (hid2_ext y)
      have hvm := (hog.mono kk).mono hid2_sub
      have htm := (OTg.mono kk).mono hid2_sub
      have hrm := (ORg.mono kk).mono hid2_sub
      exact tt_choices RE EL EN ES EY hvm (fun n js e => ⟨(hGl n js e).1, (hGl n js e).2.1⟩) ((hsg.mono kk).mono hid2_sub) htm hrm.av (.w hrm.sv) (succ_choices hvm hGl htm hrm.av) htl q
    refine ⟨Tg, fun H13 y13 T13 => heard (fun _ _ z => z) y13 (fun E' Q' h => ⟨_, rfl, _, rfl, _, rfl, h⟩) fun w1 l1 H14 s14 F1 g1 => ⟨by show 1 ≤ sizeLine; decide, fun lt2 hlt => ?_⟩⟩
    refine at_heap2 (fun Hx => Ph (lamT PT "_law_right") b lt2 (orD (dueS ol (ot.bind kindD) o3 svl sht shr) (dueR ol)) Hg Hx [.ref l1] [w1]) (Ph.first Bg y13 T13 s14 F1 g1 hlt) ?_
    clear hlt g1 s14 y13 T13 H13 H14
    rintro H8 P8
    dsimp only [List.set]
    refine ⟨_, rfl, .inl ⟨rfl, _, SqL.of P8.l⟩, P8.T, fun H13 y13 T13 => heard P8.kept y13 (fun E' Q' h => ⟨_, rfl, _, rfl, _, rfl, rfl, h⟩) fun w2 l2 H14 s14 F2 g2 => ?_⟩
    refine ⟨lt2, _, _, rfl, rfl, s14 _ _ (y13 _ _ P8.l fun _ z => by cases z), small1000 (by show 1 ≤ 1000; decide), ?_⟩
    refine at_heap (fun Hx => Ph (lamT PT "_law_right") b lt2 (orD (dueS ol (ot.bind kindD) o3 svl sht shr) (dueR ol)) Hg Hx [.ref l1, .ref l2] [w1, w2]) (P8.next y13 T13 s14 F2 g2) ?_
    clear g2 s14 y13 T13 H13 H14 P8 H8 heard
    rintro H8 P8
    -- the second same
    have egb8 := P8.x _ _ egb (fun _ z => by cases z)
    have eg8 := P8.x _ _ eg (fun _ z => by cases z)
    refine ⟨_, rfl, _, rfl, by show 0 ≤ sizeLine; decide, fun q0 hq0 => ?_⟩
    have s9 : Same H8 (upd H8 q0 (.lst [])) := same_new hq0
    have e9 : (upd H8 q0 (.lst [])) q0 = some (.lst []) := upd_same
    revert s9 e9
    generalize upd H8 q0 (.lst []) = H9
    intro s9 e9
    obtain ⟨D9, a1, a2, a3⟩ := due_test (K := K) (s9 _ _ eg8) okS
    refine ⟨D9, .list [], a1, .lst (SqL.of e9) .nil, a2, by decide, _, rfl, ?_⟩
    rw [a3]
    refine iteV (a := dl2) (a' := bl) (fun R hR => ⟨_, rfl, hR⟩) (fun R hR => ⟨_, rfl, hR⟩) ?_
    have ed9 := due_or (s9 _ _ eg8) (s9 _ _ egb8)
    rw [eor2] at ed9
    refine ⟨lt2, _, _, _, _, rfl, s9 _ _ P8.l, (P8.ps.mono hid2_sub).mono s9, by show 2 ≤ 8; decide, ed9, P8.fs, orD_ok okS okR, fun Ha sa => ⟨true, rfl, iteF ?_⟩⟩
    have s8a := s9.trans sa
    exact ⟨xg.trans (Ext2.ext (P8.x.trans (ExtN.of s8a))), P8.B.on s8a, P8.T.ext s8a, _, _, _, _, _, _, _, _, _, rfl⟩
  · rintro σ Hn ⟨xn, Bn, Tn, _, _, _, _, _, _, _, _, _, rfl⟩
    exact q Hn xn Tn
end
end Ts
namespace Ts
open PySem PySem.Spec PyProof.Rows L2 L2H LamX
section
variable {P : Program} {w : World} {K : PySem.W.Frag} {mg : Str → Option Value} {base : Heap}
theorem ok_lawT {f : Addr} {fd : FuncData} {k : Nat} {T : List (Addr × Str)} (F : Fun K "law" "law" s_law f fd) (B : Blt0 mg) (h__law_basin : Has P w K mg base 1 "_law_basin" ["_law_script", "_law_at"] (spBasin K)) (h__law_right : HasG P w K mg base (k + 1) "_law_right" ["_law_basin_here"] (spRightT T)) :
    FnG P w K mg base (k + 2) f fd ["_law_script"] (spLawT K T) := by
  refine fun_g F sc_law (fun vs H Q E h => ?_) (fun cdv A outer s H vs Q hg0 hr h => ?_)
  · obtain ⟨a, ns, rfl, _⟩ := h; rfl
  obtain ⟨a, ns, rfl, hS, hl, hT, q⟩ := h
  have hg : (A.deeper (envOfC "law" (defScope s_law) s.heap.objs.size f cdv)).guards = some [] := hg0
  have hTb : Tabs T H := fun p hp => TabS.nil (hT p hp)
  refine ⟨_, (pss_cons (ps_for PassesOwn.never rfl (pi_range1 (by rfl) B.zrange (pa_cons (pe_callB (call_max2 rfl) (by rfl) B.zmax (by decide +kernel) (pa_cons pe_int (pa_cons (pe_callB (call_min2 rfl) (by rfl) B.zmin (by decide +kernel) (pa_cons (pe_callB call_len_seq (by rfl) B.zlen (by decide +kernel) (pa_cons (pv 0) pa_nil)) (pa_cons pe_int pa_nil))) pa_nil))) pa_nil)) (pg_name (i := 1) sc_law.nd rfl (.inl rfl)) (pss_one (ps_if (pt_not (pt_val (pe_g h__law_right hg (hr.mono (by omega)) (pa_cons (pe_h h__law_basin (hr.mono (by omega)) (pa_cons (pv 0) (pa_cons (pv 1) pa_nil))) pa_nil)))) (pss_one (ps_ret pe_bl)) pss_nil)))
      (pss_one (ps_ret pe_bl))), ?_⟩
  refine ⟨_, rfl, a, _, rfl, .inl hS, _, _, rfl, _, _, rfl, ?_⟩
  have em : (if (if ((ns.map V.int).length : Int) > (5 : Int) then (5 : Int) else ((ns.map V.int).length : Int)) > (2 : Int) then (if ((ns.map V.int).length : Int) > (5 : Int) then (5 : Int) else ((ns.map V.int).length : Int)) else 2) = ((max 2 (min ns.length 5) : Nat) : Int) := by
    rw [List.length_map]
    split <;> split <;> omega
  refine ⟨_, rfl, ?_⟩
  show _ ∧ _
  rw [em]
  refine ⟨by omega, by omega, for_range (lo := 0) (n := (((max 2 (min ns.length 5) : Nat) : Int)).toNat) (fun i σ H2 => SqL K H2 a (ns.map V.int) ∧ Tabs T H2 ∧ ∃ v, σ = [some (.ref a), v]) ⟨hS, hTb, _, rfl⟩ ?_ ?_⟩
  · rintro i σ H2 hi ⟨S2, T2, v, rfl⟩
    have ec : (0 : Int) + (i : Int) = (i : Int) := by omega
    rw [ec]
    refine ⟨_, rfl, _, rfl, a, ns, i, rfl, S2, hl, by omega, fun b H3 hb s3 hB => ?_⟩
    refine ⟨b, rfl, hB, T2.ext s3, fun H4 x4 T4 => ?_⟩
    refine ⟨true, rfl, iteF ⟨sql_ext S2 fun c o e n => x4 _ _ (ne_of_none e hb) n (s3 _ _ e), T4, _, rfl⟩⟩
  · rintro σ H2 ⟨S2, T2, v, rfl⟩
    exact q H2
end
end Ts
namespace Ts
open PySem PySem.Spec PyProof.Rows L2 L2H LamX
theorem all_mk {l : PySem.W.OpenLaw} {w : World} {K : PySem.W.Frag} {h : Heap} {mg : Str → Option Value} {fa C : Addr} (X : K.In h) (G : h.Ns mainGlobals mg) (hfa : mg "law" = some (.ref fa))
    {f0 : Addr} {od0 an0 : Option Addr} {sl0 : Array (Option Value)} {oc0 kV0 dc0 pm0 cd0 ct0 : Value}
    {f1 : Addr} {od1 an1 : Option Addr} {sl1 : Array (Option Value)} {oc1 kV1 dc1 pm1 cd1 ct1 : Value}
    {f2 : Addr} {od2 an2 : Option Addr} {sl2 : Array (Option Value)} {oc2 kV2 dc2 pm2 cd2 ct2 : Value}
    {f3 : Addr} {od3 an3 : Option Addr} {sl3 : Array (Option Value)} {oc3 kV3 dc3 pm3 cd3 ct3 : Value}
    {f4 : Addr} {od4 an4 : Option Addr} {sl4 : Array (Option Value)} {oc4 kV4 dc4 pm4 cd4 ct4 : Value}
    {f5 : Addr} {od5 an5 : Option Addr} {sl5 : Array (Option Value)} {oc5 kV5 dc5 pm5 cd5 ct5 : Value}
    {f6 : Addr} {od6 an6 : Option Addr} {sl6 : Array (Option Value)} {oc6 kV6 dc6 pm6 cd6 ct6 : Value}
    {f7 : Addr} {od7 an7 : Option Addr} {sl7 : Array (Option Value)} {oc7 kV7 dc7 pm7 cd7 ct7 : Value}
    {f8 : Addr} {od8 an8 : Option Addr} {sl8 : Array (Option Value)} {oc8 kV8 dc8 pm8 cd8 ct8 : Value}
    {f9 : Addr} {od9 an9 : Option Addr} {sl9 : Array (Option Value)} {oc9 kV9 dc9 pm9 cd9 ct9 : Value}
    {f10 : Addr} {od10 an10 : Option Addr} {sl10 : Array (Option Value)} {oc10 kV10 dc10 pm10 cd10 ct10 : Value}
    {f11 : Addr} {od11 an11 : Option Addr} {sl11 : Array (Option Value)} {oc11 kV11 dc11 pm11 cd11 ct11 : Value}
    {f12 : Addr} {od12 an12 : Option Addr} {sl12 : Array (Option Value)} {oc12 kV12 dc12 pm12 cd12 ct12 : Value}
    {f13 : Addr} {od13 an13 : Option Addr} {sl13 : Array (Option Value)} {oc13 kV13 dc13 pm13 cd13 ct13 : Value}
    {f14 : Addr} {od14 an14 : Option Addr} {sl14 : Array (Option Value)} {oc14 kV14 dc14 pm14 cd14 ct14 : Value}
    {f15 : Addr} {od15 an15 : Option Addr} {sl15 : Array (Option Value)} {oc15 kV15 dc15 pm15 cd15 ct15 : Value}
    {f16 : Addr} {od16 an16 : Option Addr} {sl16 : Array (Option Value)} {oc16 kV16 dc16 pm16 cd16 ct16 : Value}
    {f17 : Addr} {od17 an17 : Option Addr} {sl17 : Array (Option Value)} {oc17 kV17 dc17 pm17 ct17 : Value} {cl17 pl17 : Addr}
    {f18 : Addr} {od18 an18 : Option Addr} {sl18 : Array (Option Value)} {oc18 kV18 dc18 pm18 cd18 ct18 : Value}
    {f19 : Addr} {od19 an19 : Option Addr} {sl19 : Array (Option Value)} {oc19 kV19 dc19 pm19 cd19 ct19 : Value}
    {f20 : Addr} {od20 an20 : Option Addr} {sl20 : Array (Option Value)} {oc20 kV20 dc20 pm20 cd20 ct20 : Value}
    {f21 : Addr} {od21 an21 : Option Addr} {sl21 : Array (Option Value)} {oc21 kV21 dc21 pm21 cd21 ct21 : Value}
    {f22 : Addr} {od22 an22 : Option Addr} {sl22 : Array (Option Value)} {oc22 kV22 dc22 pm22 cd22 ct22 : Value}
    {f23 : Addr} {od23 an23 : Option Addr} {sl23 : Array (Option Value)} {oc23 kV23 dc23 pm23 cd23 ct23 : Value}
    {f24 : Addr} {od24 an24 : Option Addr} {sl24 : Array (Option Value)} {oc24 kV24 dc24 pm24 cd24 ct24 : Value}
    {f25 : Addr} {od25 an25 : Option Addr} {sl25 : Array (Option Value)} {oc25 kV25 dc25 pm25 cd25 ct25 : Value}
    {f26 : Addr} {od26 an26 : Option Addr} {sl26 : Array (Option Value)} {oc26 kV26 dc26 pm26 cd26 ct26 : Value}
    {f27 : Addr} {od27 an27 : Option Addr} {sl27 : Array (Option Value)} {oc27 kV27 dc27 pm27 cd27 ct27 : Value}
    {f28 : Addr} {od28 an28 : Option Addr} {sl28 : Array (Option Value)} {oc28 kV28 dc28 pm28 cd28 ct28 : Value}
    {f29 : Addr} {od29 an29 : Option Addr} {sl29 : Array (Option Value)} {oc29 kV29 dc29 pm29 cd29 ct29 : Value}
    {f30 : Addr} {od30 an30 : Option Addr} {sl30 : Array (Option Value)} {oc30 kV30 dc30 pm30 cd30 ct30 : Value}
    {f31 : Addr} {od31 an31 : Option Addr} {sl31 : Array (Option Value)} {oc31 kV31 dc31 pm31 cd31 ct31 : Value}
    {f32 : Addr} {od32 an32 : Option Addr} {sl32 : Array (Option Value)} {oc32 kV32 dc32 pm32 cd32 ct32 : Value}
    {f33 : Addr} {od33 an33 : Option Addr} {sl33 : Array (Option Value)} {oc33 kV33 dc33 pm33 cd33 ct33 : Value}
    {f34 : Addr} {od34 an34 : Option Addr} {sl34 : Array (Option Value)} {oc34 kV34 dc34 pm34 cd34 ct34 : Value}
    {f35 : Addr} {od35 an35 : Option Addr} {sl35 : Array (Option Value)} {oc35 kV35 dc35 pm35 cd35 ct35 : Value}
    {f36 : Addr} {od36 an36 : Option Addr} {sl36 : Array (Option Value)} {oc36 kV36 dc36 pm36 cd36 ct36 : Value}
    {f37 : Addr} {od37 an37 : Option Addr} {sl37 : Array (Option Value)} {oc37 kV37 dc37 pm37 cd37 ct37 : Value}
    {f38 : Addr} {od38 an38 : Option Addr} {sl38 : Array (Option Value)} {oc38 kV38 dc38 pm38 cd38 ct38 : Value}
    {f39 : Addr} {od39 an39 : Option Addr} {sl39 : Array (Option Value)} {oc39 kV39 dc39 pm39 cd39 ct39 : Value}
    {f40 : Addr} {od40 an40 : Option Addr} {sl40 : Array (Option Value)} {oc40 kV40 dc40 pm40 cd40 ct40 : Value}
    {f41 : Addr} {od41 an41 : Option Addr} {sl41 : Array (Option Value)} {oc41 kV41 dc41 pm41 cd41 ct41 : Value}
    {f42 : Addr} {od42 an42 : Option Addr} {sl42 : Array (Option Value)} {oc42 kV42 dc42 pm42 cd42 ct42 : Value}
    {f43 : Addr} {od43 an43 : Option Addr} {sl43 : Array (Option Value)} {oc43 kV43 dc43 pm43 cd43 ct43 : Value}
    {f44 : Addr} {od44 an44 : Option Addr} {sl44 : Array (Option Value)} {oc44 kV44 dc44 pm44 cd44 ct44 : Value}
    {f45 : Addr} {od45 an45 : Option Addr} {sl45 : Array (Option Value)} {oc45 kV45 dc45 pm45 cd45 ct45 : Value}
    {f46 : Addr} {od46 an46 : Option Addr} {sl46 : Array (Option Value)} {oc46 kV46 dc46 pm46 cd46 ct46 : Value}
    {f47 : Addr} {od47 an47 : Option Addr} {sl47 : Array (Option Value)} {oc47 kV47 dc47 pm47 cd47 ct47 : Value}
    {f48 : Addr} {od48 an48 : Option Addr} {sl48 : Array (Option Value)} {oc48 kV48 dc48 pm48 cd48 ct48 : Value}
    {f49 : Addr} {od49 an49 : Option Addr} {sl49 : Array (Option Value)} {oc49 kV49 dc49 pm49 cd49 ct49 : Value}
    {fI : Addr} {odI anI : Option Addr} {slI : Array (Option Value)} {ocI kVI dcI pmI cdI ctI : Value}
    {fPtext : Addr} {odPtext anPtext : Option Addr} {slPtext : Array (Option Value)} {ocPtext kVPtext dcPtext pmPtext cdPtext ctPtext : Value} {pPtext : Addr} {rePtext : List Value}
    {fPshares : Addr} {odPshares anPshares : Option Addr} {slPshares : Array (Option Value)} {ocPshares kVPshares dcPshares pmPshares cdPshares ctPshares : Value} {pPshares : Addr} {rePshares : List Value}
    {fPhands : Addr} {odPhands anPhands : Option Addr} {slPhands : Array (Option Value)} {ocPhands kVPhands dcPhands pmPhands cdPhands ctPhands : Value} {pPhands : Addr} {rePhands : List Value}
    {fPspan : Addr} {odPspan anPspan : Option Addr} {slPspan : Array (Option Value)} {ocPspan kVPspan dcPspan pmPspan cdPspan ctPspan : Value} {pPspan : Addr} {rePspan : List Value}
    {fSrepr : Addr} {odSrepr anSrepr : Option Addr} {slSrepr : Array (Option Value)} {ocSrepr kVSrepr dcSrepr pmSrepr cdSrepr ctSrepr : Value}
    {CW : Addr}
    {fWI : Addr} {odWI anWI : Option Addr} {slWI : Array (Option Value)} {ocWI kVWI dcWI pmWI cdWI ctWI : Value}
    {fWis_alive : Addr} {odWis_alive anWis_alive : Option Addr} {slWis_alive : Array (Option Value)} {ocWis_alive kVWis_alive dcWis_alive pmWis_alive cdWis_alive ctWis_alive : Value}
    {fWcrews : Addr} {odWcrews anWcrews : Option Addr} {slWcrews : Array (Option Value)} {ocWcrews kVWcrews dcWcrews pmWcrews cdWcrews ctWcrews : Value}
    {fWchoices : Addr} {odWchoices anWchoices : Option Addr} {slWchoices : Array (Option Value)} {ocWchoices kVWchoices dcWchoices pmWchoices cdWchoices ctWchoices : Value}
    {e0 e1 e2 e3 e4 e5 e6 e7 e8 e9 e10 v0 v1 v2 : Addr}
    {fX1 : Addr} {odX1 anX1 : Option Addr} {slX1 : Array (Option Value)} {ocX1 kVX1 dcX1 pmX1 cdX1 ctX1 : Value}
    {fX4 : Addr} {odX4 anX4 : Option Addr} {slX4 : Array (Option Value)} {ocX4 kVX4 dcX4 pmX4 cdX4 ctX4 : Value}
    {fX5 : Addr} {odX5 anX5 : Option Addr} {slX5 : Array (Option Value)} {ocX5 kVX5 dcX5 pmX5 cdX5 ctX5 : Value}
    {fX9 : Addr} {odX9 anX9 : Option Addr} {slX9 : Array (Option Value)} {ocX9 kVX9 dcX9 pmX9 cdX9 ctX9 : Value}
    {t0 : Tok}
    {t1 : Tok}
    {t2 : Tok}
    {t3 : Tok}
    {t4 : Tok}
    {tFARTHEST : Tok}
    {tMOST_ROUND : Tok}
    (a0 : PySem.W.nsIn K mainGlobals "_law_basin" = some (some (.ref f0)))
    (l0 : K.lookup f0 = some ⟨oc0, od0, .func (PySem.W.fnOf "_law_basin" "_law_basin" (defArgs s__law_basin) (defBody s__law_basin) (defScope s__law_basin) .none kV0 dc0 pm0 an0 cd0 ct0), sl0⟩)
    (c0 : PySem.W.codeIn K cd0 "_law_basin" = true)
    (k0 : PySem.W.keepIn K (.ref f0) = true)
    (a1 : PySem.W.nsIn K mainGlobals "_law_ladle" = some (some (.ref f1)))
    (l1 : K.lookup f1 = some ⟨oc1, od1, .func (PySem.W.fnOf "_law_ladle" "_law_ladle" (defArgs s__law_ladle) (defBody s__law_ladle) (defScope s__law_ladle) .none kV1 dc1 pm1 an1 cd1 ct1), sl1⟩)
    (c1 : PySem.W.codeIn K cd1 "_law_ladle" = true)
    (k1 : PySem.W.keepIn K (.ref f1) = true)
    (a2 : PySem.W.nsIn K mainGlobals "_law_tags" = some (some (.ref f2)))
    (l2 : K.lookup f2 = some ⟨oc2, od2, .func (PySem.W.fnOf "_law_tags" "_law_tags" (defArgs s__law_tags) (defBody s__law_tags) (defScope s__law_tags) .none kV2 dc2 pm2 an2 cd2 ct2), sl2⟩)
    (c2 : PySem.W.codeIn K cd2 "_law_tags" = true)
    (k2 : PySem.W.keepIn K (.ref f2) = true)
    (a3 : PySem.W.nsIn K mainGlobals "_law_lowest" = some (some (.ref f3)))
    (l3 : K.lookup f3 = some ⟨oc3, od3, .func (PySem.W.fnOf "_law_lowest" "_law_lowest" (defArgs s__law_lowest) (defBody s__law_lowest) (defScope s__law_lowest) .none kV3 dc3 pm3 an3 cd3 ct3), sl3⟩)
    (c3 : PySem.W.codeIn K cd3 "_law_lowest" = true)
    (k3 : PySem.W.keepIn K (.ref f3) = true)
    (a4 : PySem.W.nsIn K mainGlobals "_law_part" = some (some (.ref f4)))
    (l4 : K.lookup f4 = some ⟨oc4, od4, .func (PySem.W.fnOf "_law_part" "_law_part" (defArgs s__law_part) (defBody s__law_part) (defScope s__law_part) .none kV4 dc4 pm4 an4 cd4 ct4), sl4⟩)
    (c4 : PySem.W.codeIn K cd4 "_law_part" = true)
    (k4 : PySem.W.keepIn K (.ref f4) = true)
    (a5 : PySem.W.nsIn K mainGlobals "_law_jobs" = some (some (.ref f5)))
    (l5 : K.lookup f5 = some ⟨oc5, od5, .func (PySem.W.fnOf "_law_jobs" "_law_jobs" (defArgs s__law_jobs) (defBody s__law_jobs) (defScope s__law_jobs) .none kV5 dc5 pm5 an5 cd5 ct5), sl5⟩)
    (c5 : PySem.W.codeIn K cd5 "_law_jobs" = true)
    (k5 : PySem.W.keepIn K (.ref f5) = true)
    (a6 : PySem.W.nsIn K mainGlobals "_law_page" = some (some (.ref f6)))
    (l6 : K.lookup f6 = some ⟨oc6, od6, .func (PySem.W.fnOf "_law_page" "_law_page" (defArgs s__law_page) (defBody s__law_page) (defScope s__law_page) .none kV6 dc6 pm6 an6 cd6 ct6), sl6⟩)
    (c6 : PySem.W.codeIn K cd6 "_law_page" = true)
    (k6 : PySem.W.keepIn K (.ref f6) = true)
    (a7 : PySem.W.nsIn K mainGlobals "_law_cycle" = some (some (.ref f7)))
    (l7 : K.lookup f7 = some ⟨oc7, od7, .func (PySem.W.fnOf "_law_cycle" "_law_cycle" (defArgs s__law_cycle) (defBody s__law_cycle) (defScope s__law_cycle) .none kV7 dc7 pm7 an7 cd7 ct7), sl7⟩)
    (c7 : PySem.W.codeIn K cd7 "_law_cycle" = true)
    (k7 : PySem.W.keepIn K (.ref f7) = true)
    (a8 : PySem.W.nsIn K mainGlobals "_law_within" = some (some (.ref f8)))
    (l8 : K.lookup f8 = some ⟨oc8, od8, .func (PySem.W.fnOf "_law_within" "_law_within" (defArgs s__law_within) (defBody s__law_within) (defScope s__law_within) .none kV8 dc8 pm8 an8 cd8 ct8), sl8⟩)
    (c8 : PySem.W.codeIn K cd8 "_law_within" = true)
    (k8 : PySem.W.keepIn K (.ref f8) = true)
    (a9 : PySem.W.nsIn K mainGlobals "_law_bases" = some (some (.ref f9)))
    (l9 : K.lookup f9 = some ⟨oc9, od9, .func (PySem.W.fnOf "_law_bases" "_law_bases" (defArgs s__law_bases) (defBody s__law_bases) (defScope s__law_bases) .none kV9 dc9 pm9 an9 cd9 ct9), sl9⟩)
    (c9 : PySem.W.codeIn K cd9 "_law_bases" = true)
    (k9 : PySem.W.keepIn K (.ref f9) = true)
    (a10 : PySem.W.nsIn K mainGlobals "_law_class" = some (some (.ref f10)))
    (l10 : K.lookup f10 = some ⟨oc10, od10, .func (PySem.W.fnOf "_law_class" "_law_class" (defArgs s__law_class) (defBody s__law_class) (defScope s__law_class) .none kV10 dc10 pm10 an10 cd10 ct10), sl10⟩)
    (c10 : PySem.W.codeIn K cd10 "_law_class" = true)
    (k10 : PySem.W.keepIn K (.ref f10) = true)
    (a11 : PySem.W.nsIn K mainGlobals "_law_heard" = some (some (.ref f11)))
    (l11 : K.lookup f11 = some ⟨oc11, od11, .func (PySem.W.fnOf "_law_heard" "_law_heard" (defArgs s__law_heard) (defBody s__law_heard) (defScope s__law_heard) .none kV11 dc11 pm11 an11 cd11 ct11), sl11⟩)
    (c11 : PySem.W.codeIn K cd11 "_law_heard" = true)
    (k11 : PySem.W.keepIn K (.ref f11) = true)
    (a12 : PySem.W.nsIn K mainGlobals "_law_same" = some (some (.ref f12)))
    (l12 : K.lookup f12 = some ⟨oc12, od12, .func (PySem.W.fnOf "_law_same" "_law_same" (defArgs s__law_same) (defBody s__law_same) (defScope s__law_same) .none kV12 dc12 pm12 an12 cd12 ct12), sl12⟩)
    (c12 : PySem.W.codeIn K cd12 "_law_same" = true)
    (k12 : PySem.W.keepIn K (.ref f12) = true)
    (a13 : PySem.W.nsIn K mainGlobals "_law_no_lot" = some (some (.ref f13)))
    (l13 : K.lookup f13 = some ⟨oc13, od13, .func (PySem.W.fnOf "_law_no_lot" "_law_no_lot" (defArgs s__law_no_lot) (defBody s__law_no_lot) (defScope s__law_no_lot) .none kV13 dc13 pm13 an13 cd13 ct13), sl13⟩)
    (c13 : PySem.W.codeIn K cd13 "_law_no_lot" = true)
    (k13 : PySem.W.keepIn K (.ref f13) = true)
    (a14 : PySem.W.nsIn K mainGlobals "_law_kept" = some (some (.ref f14)))
    (l14 : K.lookup f14 = some ⟨oc14, od14, .func (PySem.W.fnOf "_law_kept" "_law_kept" (defArgs s__law_kept) (defBody s__law_kept) (defScope s__law_kept) .none kV14 dc14 pm14 an14 cd14 ct14), sl14⟩)
    (c14 : PySem.W.codeIn K cd14 "_law_kept" = true)
    (k14 : PySem.W.keepIn K (.ref f14) = true)
    (a15 : PySem.W.nsIn K mainGlobals "_law_row" = some (some (.ref f15)))
    (l15 : K.lookup f15 = some ⟨oc15, od15, .func (PySem.W.fnOf "_law_row" "_law_row" (defArgs s__law_row) (defBody s__law_row) (defScope s__law_row) .none kV15 dc15 pm15 an15 cd15 ct15), sl15⟩)
    (c15 : PySem.W.codeIn K cd15 "_law_row" = true)
    (k15 : PySem.W.keepIn K (.ref f15) = true)
    (a16 : PySem.W.nsIn K mainGlobals "_law_is_row" = some (some (.ref f16)))
    (l16 : K.lookup f16 = some ⟨oc16, od16, .func (PySem.W.fnOf "_law_is_row" "_law_is_row" (defArgs s__law_is_row) (defBody s__law_is_row) (defScope s__law_is_row) .none kV16 dc16 pm16 an16 cd16 ct16), sl16⟩)
    (c16 : PySem.W.codeIn K cd16 "_law_is_row" = true)
    (k16 : PySem.W.keepIn K (.ref f16) = true)
    (a17 : PySem.W.nsIn K mainGlobals "_law_right" = some (some (.ref f17)))
    (l17 : K.lookup f17 = some ⟨oc17, od17, .func (PySem.W.fnOf "_law_right" "_law_right" (defArgs s__law_right) (defBody s__law_right) (defScope s__law_right) .none kV17 dc17 pm17 an17 (.ref cl17) ct17), sl17⟩)
    (c17 : PySem.W.codeIn K (.ref cl17) "_law_right" = true)
    (k17 : PySem.W.keepIn K (.ref f17) = true)
    (a18 : PySem.W.nsIn K mainGlobals "law" = some (some (.ref f18)))
    (l18 : K.lookup f18 = some ⟨oc18, od18, .func (PySem.W.fnOf "law" "law" (defArgs s_law) (defBody s_law) (defScope s_law) .none kV18 dc18 pm18 an18 cd18 ct18), sl18⟩)
    (c18 : PySem.W.codeIn K cd18 "law" = true)
    (k18 : PySem.W.keepIn K (.ref f18) = true)
    (a19 : PySem.W.nsIn K mainGlobals "crew_of" = some (some (.ref f19)))
    (l19 : K.lookup f19 = some ⟨oc19, od19, .func (PySem.W.fnOf "crew_of" "crew_of" (defArgs s_crew_of) (defBody s_crew_of) (defScope s_crew_of) .none kV19 dc19 pm19 an19 cd19 ct19), sl19⟩)
    (c19 : PySem.W.codeIn K cd19 "crew_of" = true)
    (k19 : PySem.W.keepIn K (.ref f19) = true)
    (a20 : PySem.W.nsIn K mainGlobals "members_of" = some (some (.ref f20)))
    (l20 : K.lookup f20 = some ⟨oc20, od20, .func (PySem.W.fnOf "members_of" "members_of" (defArgs s_members_of) (defBody s_members_of) (defScope s_members_of) .none kV20 dc20 pm20 an20 cd20 ct20), sl20⟩)
    (c20 : PySem.W.codeIn K cd20 "members_of" = true)
    (k20 : PySem.W.keepIn K (.ref f20) = true)
    (a21 : PySem.W.nsIn K mainGlobals "sizes_of_crews" = some (some (.ref f21)))
    (l21 : K.lookup f21 = some ⟨oc21, od21, .func (PySem.W.fnOf "sizes_of_crews" "sizes_of_crews" (defArgs s_sizes_of_crews) (defBody s_sizes_of_crews) (defScope s_sizes_of_crews) .none kV21 dc21 pm21 an21 cd21 ct21), sl21⟩)
    (c21 : PySem.W.codeIn K cd21 "sizes_of_crews" = true)
    (k21 : PySem.W.keepIn K (.ref f21) = true)
    (a22 : PySem.W.nsIn K mainGlobals "parts_of_crews" = some (some (.ref f22)))
    (l22 : K.lookup f22 = some ⟨oc22, od22, .func (PySem.W.fnOf "parts_of_crews" "parts_of_crews" (defArgs s_parts_of_crews) (defBody s_parts_of_crews) (defScope s_parts_of_crews) .none kV22 dc22 pm22 an22 cd22 ct22), sl22⟩)
    (c22 : PySem.W.codeIn K cd22 "parts_of_crews" = true)
    (k22 : PySem.W.keepIn K (.ref f22) = true)
    (a23 : PySem.W.nsIn K mainGlobals "is_number" = some (some (.ref f23)))
    (l23 : K.lookup f23 = some ⟨oc23, od23, .func (PySem.W.fnOf "is_number" "is_number" (defArgs s_is_number) (defBody s_is_number) (defScope s_is_number) .none kV23 dc23 pm23 an23 cd23 ct23), sl23⟩)
    (c23 : PySem.W.codeIn K cd23 "is_number" = true)
    (k23 : PySem.W.keepIn K (.ref f23) = true)
    (a24 : PySem.W.nsIn K mainGlobals "is_number_from" = some (some (.ref f24)))
    (l24 : K.lookup f24 = some ⟨oc24, od24, .func (PySem.W.fnOf "is_number_from" "is_number_from" (defArgs s_is_number_from) (defBody s_is_number_from) (defScope s_is_number_from) .none kV24 dc24 pm24 an24 cd24 ct24), sl24⟩)
    (c24 : PySem.W.codeIn K cd24 "is_number_from" = true)
    (k24 : PySem.W.keepIn K (.ref f24) = true)
    (a25 : PySem.W.nsIn K mainGlobals "is_name" = some (some (.ref f25)))
    (l25 : K.lookup f25 = some ⟨oc25, od25, .func (PySem.W.fnOf "is_name" "is_name" (defArgs s_is_name) (defBody s_is_name) (defScope s_is_name) .none kV25 dc25 pm25 an25 cd25 ct25), sl25⟩)
    (c25 : PySem.W.codeIn K cd25 "is_name" = true)
    (k25 : PySem.W.keepIn K (.ref f25) = true)
    (a26 : PySem.W.nsIn K mainGlobals "is_share" = some (some (.ref f26)))
    (l26 : K.lookup f26 = some ⟨oc26, od26, .func (PySem.W.fnOf "is_share" "is_share" (defArgs s_is_share) (defBody s_is_share) (defScope s_is_share) .none kV26 dc26 pm26 an26 cd26 ct26), sl26⟩)
    (c26 : PySem.W.codeIn K cd26 "is_share" = true)
    (k26 : PySem.W.keepIn K (.ref f26) = true)
    (a27 : PySem.W.nsIn K mainGlobals "check_number" = some (some (.ref f27)))
    (l27 : K.lookup f27 = some ⟨oc27, od27, .func (PySem.W.fnOf "check_number" "check_number" (defArgs s_check_number) (defBody s_check_number) (defScope s_check_number) .none kV27 dc27 pm27 an27 cd27 ct27), sl27⟩)
    (c27 : PySem.W.codeIn K cd27 "check_number" = true)
    (k27 : PySem.W.keepIn K (.ref f27) = true)
    (a28 : PySem.W.nsIn K mainGlobals "check_moment" = some (some (.ref f28)))
    (l28 : K.lookup f28 = some ⟨oc28, od28, .func (PySem.W.fnOf "check_moment" "check_moment" (defArgs s_check_moment) (defBody s_check_moment) (defScope s_check_moment) .none kV28 dc28 pm28 an28 cd28 ct28), sl28⟩)
    (c28 : PySem.W.codeIn K cd28 "check_moment" = true)
    (k28 : PySem.W.keepIn K (.ref f28) = true)
    (a29 : PySem.W.nsIn K mainGlobals "check_lot" = some (some (.ref f29)))
    (l29 : K.lookup f29 = some ⟨oc29, od29, .func (PySem.W.fnOf "check_lot" "check_lot" (defArgs s_check_lot) (defBody s_check_lot) (defScope s_check_lot) .none kV29 dc29 pm29 an29 cd29 ct29), sl29⟩)
    (c29 : PySem.W.codeIn K cd29 "check_lot" = true)
    (k29 : PySem.W.keepIn K (.ref f29) = true)
    (a30 : PySem.W.nsIn K mainGlobals "check_round" = some (some (.ref f30)))
    (l30 : K.lookup f30 = some ⟨oc30, od30, .func (PySem.W.fnOf "check_round" "check_round" (defArgs s_check_round) (defBody s_check_round) (defScope s_check_round) .none kV30 dc30 pm30 an30 cd30 ct30), sl30⟩)
    (c30 : PySem.W.codeIn K cd30 "check_round" = true)
    (k30 : PySem.W.keepIn K (.ref f30) = true)
    (a31 : PySem.W.nsIn K mainGlobals "_read_hands" = some (some (.ref f31)))
    (l31 : K.lookup f31 = some ⟨oc31, od31, .func (PySem.W.fnOf "_read_hands" "_read_hands" (defArgs s__read_hands) (defBody s__read_hands) (defScope s__read_hands) .none kV31 dc31 pm31 an31 cd31 ct31), sl31⟩)
    (c31 : PySem.W.codeIn K cd31 "_read_hands" = true)
    (k31 : PySem.W.keepIn K (.ref f31) = true)
    (a32 : PySem.W.nsIn K mainGlobals "_read_works" = some (some (.ref f32)))
    (l32 : K.lookup f32 = some ⟨oc32, od32, .func (PySem.W.fnOf "_read_works" "_read_works" (defArgs s__read_works) (defBody s__read_works) (defScope s__read_works) .none kV32 dc32 pm32 an32 cd32 ct32), sl32⟩)
    (c32 : PySem.W.codeIn K cd32 "_read_works" = true)
    (k32 : PySem.W.keepIn K (.ref f32) = true)
    (a33 : PySem.W.nsIn K mainGlobals "_read_work" = some (some (.ref f33)))
    (l33 : K.lookup f33 = some ⟨oc33, od33, .func (PySem.W.fnOf "_read_work" "_read_work" (defArgs s__read_work) (defBody s__read_work) (defScope s__read_work) .none kV33 dc33 pm33 an33 cd33 ct33), sl33⟩)
    (c33 : PySem.W.codeIn K cd33 "_read_work" = true)
    (k33 : PySem.W.keepIn K (.ref f33) = true)
    (a34 : PySem.W.nsIn K mainGlobals "_read_number" = some (some (.ref f34)))
    (l34 : K.lookup f34 = some ⟨oc34, od34, .func (PySem.W.fnOf "_read_number" "_read_number" (defArgs s__read_number) (defBody s__read_number) (defScope s__read_number) .none kV34 dc34 pm34 an34 cd34 ct34), sl34⟩)
    (c34 : PySem.W.codeIn K cd34 "_read_number" = true)
    (k34 : PySem.W.keepIn K (.ref f34) = true)
    (a35 : PySem.W.nsIn K mainGlobals "_span_of" = some (some (.ref f35)))
    (l35 : K.lookup f35 = some ⟨oc35, od35, .func (PySem.W.fnOf "_span_of" "_span_of" (defArgs s__span_of) (defBody s__span_of) (defScope s__span_of) .none kV35 dc35 pm35 an35 cd35 ct35), sl35⟩)
    (c35 : PySem.W.codeIn K cd35 "_span_of" = true)
    (k35 : PySem.W.keepIn K (.ref f35) = true)
    (a36 : PySem.W.nsIn K mainGlobals "_total_of" = some (some (.ref f36)))
    (l36 : K.lookup f36 = some ⟨oc36, od36, .func (PySem.W.fnOf "_total_of" "_total_of" (defArgs s__total_of) (defBody s__total_of) (defScope s__total_of) .none kV36 dc36 pm36 an36 cd36 ct36), sl36⟩)
    (c36 : PySem.W.codeIn K cd36 "_total_of" = true)
    (k36 : PySem.W.keepIn K (.ref f36) = true)
    (a37 : PySem.W.nsIn K mainGlobals "all_picks" = some (some (.ref f37)))
    (l37 : K.lookup f37 = some ⟨oc37, od37, .func (PySem.W.fnOf "all_picks" "all_picks" (defArgs s_all_picks) (defBody s_all_picks) (defScope s_all_picks) .none kV37 dc37 pm37 an37 cd37 ct37), sl37⟩)
    (c37 : PySem.W.codeIn K cd37 "all_picks" = true)
    (k37 : PySem.W.keepIn K (.ref f37) = true)
    (a38 : PySem.W.nsIn K mainGlobals "turns_of" = some (some (.ref f38)))
    (l38 : K.lookup f38 = some ⟨oc38, od38, .func (PySem.W.fnOf "turns_of" "turns_of" (defArgs s_turns_of) (defBody s_turns_of) (defScope s_turns_of) .none kV38 dc38 pm38 an38 cd38 ct38), sl38⟩)
    (c38 : PySem.W.codeIn K cd38 "turns_of" = true)
    (k38 : PySem.W.keepIn K (.ref f38) = true)
    (a39 : PySem.W.nsIn K mainGlobals "_quotient_up" = some (some (.ref f39)))
    (l39 : K.lookup f39 = some ⟨oc39, od39, .func (PySem.W.fnOf "_quotient_up" "_quotient_up" (defArgs s__quotient_up) (defBody s__quotient_up) (defScope s__quotient_up) .none kV39 dc39 pm39 an39 cd39 ct39), sl39⟩)
    (c39 : PySem.W.codeIn K cd39 "_quotient_up" = true)
    (k39 : PySem.W.keepIn K (.ref f39) = true)
    (a40 : PySem.W.nsIn K mainGlobals "round_of" = some (some (.ref f40)))
    (l40 : K.lookup f40 = some ⟨oc40, od40, .func (PySem.W.fnOf "round_of" "round_of" (defArgs s_round_of) (defBody s_round_of) (defScope s_round_of) .none kV40 dc40 pm40 an40 cd40 ct40), sl40⟩)
    (c40 : PySem.W.codeIn K cd40 "round_of" = true)
    (k40 : PySem.W.keepIn K (.ref f40) = true)
    (a41 : PySem.W.nsIn K mainGlobals "_grown_between" = some (some (.ref f41)))
    (l41 : K.lookup f41 = some ⟨oc41, od41, .func (PySem.W.fnOf "_grown_between" "_grown_between" (defArgs s__grown_between) (defBody s__grown_between) (defScope s__grown_between) .none kV41 dc41 pm41 an41 cd41 ct41), sl41⟩)
    (c41 : PySem.W.codeIn K cd41 "_grown_between" = true)
    (k41 : PySem.W.keepIn K (.ref f41) = true)
    (a42 : PySem.W.nsIn K mainGlobals "_living_of" = some (some (.ref f42)))
    (l42 : K.lookup f42 = some ⟨oc42, od42, .func (PySem.W.fnOf "_living_of" "_living_of" (defArgs s__living_of) (defBody s__living_of) (defScope s__living_of) .none kV42 dc42 pm42 an42 cd42 ct42), sl42⟩)
    (c42 : PySem.W.codeIn K cd42 "_living_of" = true)
    (k42 : PySem.W.keepIn K (.ref f42) = true)
    (a43 : PySem.W.nsIn K mainGlobals "_standings_before" = some (some (.ref f43)))
    (l43 : K.lookup f43 = some ⟨oc43, od43, .func (PySem.W.fnOf "_standings_before" "_standings_before" (defArgs s__standings_before) (defBody s__standings_before) (defScope s__standings_before) .none kV43 dc43 pm43 an43 cd43 ct43), sl43⟩)
    (c43 : PySem.W.codeIn K cd43 "_standings_before" = true)
    (k43 : PySem.W.keepIn K (.ref f43) = true)
    (a44 : PySem.W.nsIn K mainGlobals "standings" = some (some (.ref f44)))
    (l44 : K.lookup f44 = some ⟨oc44, od44, .func (PySem.W.fnOf "standings" "standings" (defArgs s_standings) (defBody s_standings) (defScope s_standings) .none kV44 dc44 pm44 an44 cd44 ct44), sl44⟩)
    (c44 : PySem.W.codeIn K cd44 "standings" = true)
    (k44 : PySem.W.keepIn K (.ref f44) = true)
    (a45 : PySem.W.nsIn K mainGlobals "alive" = some (some (.ref f45)))
    (l45 : K.lookup f45 = some ⟨oc45, od45, .func (PySem.W.fnOf "alive" "alive" (defArgs s_alive) (defBody s_alive) (defScope s_alive) .none kV45 dc45 pm45 an45 cd45 ct45), sl45⟩)
    (c45 : PySem.W.codeIn K cd45 "alive" = true)
    (k45 : PySem.W.keepIn K (.ref f45) = true)
    (a46 : PySem.W.nsIn K mainGlobals "choices" = some (some (.ref f46)))
    (l46 : K.lookup f46 = some ⟨oc46, od46, .func (PySem.W.fnOf "choices" "choices" (defArgs s_choices) (defBody s_choices) (defScope s_choices) .none kV46 dc46 pm46 an46 cd46 ct46), sl46⟩)
    (c46 : PySem.W.codeIn K cd46 "choices" = true)
    (k46 : PySem.W.keepIn K (.ref f46) = true)
    (a47 : PySem.W.nsIn K mainGlobals "check_standing" = some (some (.ref f47)))
    (l47 : K.lookup f47 = some ⟨oc47, od47, .func (PySem.W.fnOf "check_standing" "check_standing" (defArgs s_check_standing) (defBody s_check_standing) (defScope s_check_standing) .none kV47 dc47 pm47 an47 cd47 ct47), sl47⟩)
    (c47 : PySem.W.codeIn K cd47 "check_standing" = true)
    (k47 : PySem.W.keepIn K (.ref f47) = true)
    (a48 : PySem.W.nsIn K mainGlobals "ahead_in" = some (some (.ref f48)))
    (l48 : K.lookup f48 = some ⟨oc48, od48, .func (PySem.W.fnOf "ahead_in" "ahead_in" (defArgs s_ahead_in) (defBody s_ahead_in) (defScope s_ahead_in) .none kV48 dc48 pm48 an48 cd48 ct48), sl48⟩)
    (c48 : PySem.W.codeIn K cd48 "ahead_in" = true)
    (k48 : PySem.W.keepIn K (.ref f48) = true)
    (a49 : PySem.W.nsIn K mainGlobals "_numbers_at" = some (some (.ref f49)))
    (l49 : K.lookup f49 = some ⟨oc49, od49, .func (PySem.W.fnOf "_numbers_at" "_numbers_at" (defArgs s__numbers_at) (defBody s__numbers_at) (defScope s__numbers_at) .none kV49 dc49 pm49 an49 cd49 ct49), sl49⟩)
    (c49 : PySem.W.codeIn K cd49 "_numbers_at" = true)
    (k49 : PySem.W.keepIn K (.ref f49) = true)
    (aC : PySem.W.nsIn K mainGlobals "Lot" = some (some (.ref C)))
    (aI : PySem.W.findIn K (.ref C) "__init__" = some (some (.ref fI)))
    (lI : K.lookup fI = some ⟨ocI, odI, .func (PySem.W.fnOf "__init__" "Lot.__init__" (defArgs s_Lot___init__) (defBody s_Lot___init__) (defScope s_Lot___init__) .none kVI dcI pmI anI cdI ctI), slI⟩)
    (cI : PySem.W.codeIn K cdI "Lot.__init__" = true)
    (kI : PySem.W.keepIn K (.ref fI) = true)
    (iI : PySem.W.isFn K (.ref fI) = true)
    (pg : PySem.W.plainGet K C Str.empty = true)
    (hd : PySem.W.hasDictIn K C = true)
    (po : PySem.W.plainOver K C = true)
    (sa : PySem.W.findIn K (.ref C) "__setattr__" = some (some (.builtin "object.__setattr__")))
    (mk : PySem.W.makesIn K C = true)
    (kc : PySem.W.keepIn K (.ref C) = true)
    (ca : PySem.W.findIn K (.ref C) "__class__" = some (some (.builtin "object.__class__")))
    (cb : PySem.W.specialIn K (.builtin "object.__class__") "__get__" = some (some (.builtin "getset_descriptor.__get__")))
    (cc : PySem.W.takesIn K (.builtin "object.__class__") = some true)
    (cm : PySem.W.mroIn K C (.type "object") = some true)
    (n0 : PySem.W.findIn K (.ref C) "_text" = some none)
    (n1 : PySem.W.findIn K (.ref C) "_hands" = some none)
    (n2 : PySem.W.findIn K (.ref C) "_names" = some none)
    (n3 : PySem.W.findIn K (.ref C) "_shares" = some none)
    (n4 : PySem.W.findIn K (.ref C) "_span" = some none)
    (n5 : PySem.W.findIn K (.ref C) "_total" = some none)
    (atPtext : PySem.W.findIn K (.ref C) "text" = some (some (.ref pPtext)))
    (rePtext_ : PySem.W.recIn K pPtext "property" = some (.ref fPtext :: rePtext))
    (gePtext : PySem.W.specialIn K (.ref pPtext) "__get__" = some (some (.builtin "property.__get__")))
    (taPtext : PySem.W.takesIn K (.ref pPtext) = some true)
    (lPtext : K.lookup fPtext = some ⟨ocPtext, odPtext, .func (PySem.W.fnOf "text" "Lot.text" (defArgs s_Lot_text) (defBody s_Lot_text) (defScope s_Lot_text) .none kVPtext dcPtext pmPtext anPtext cdPtext ctPtext), slPtext⟩)
    (cPtext : PySem.W.codeIn K cdPtext "Lot.text" = true)
    (kPtext : PySem.W.keepIn K (.ref fPtext) = true)
    (atPshares : PySem.W.findIn K (.ref C) "shares" = some (some (.ref pPshares)))
    (rePshares_ : PySem.W.recIn K pPshares "property" = some (.ref fPshares :: rePshares))
    (gePshares : PySem.W.specialIn K (.ref pPshares) "__get__" = some (some (.builtin "property.__get__")))
    (taPshares : PySem.W.takesIn K (.ref pPshares) = some true)
    (lPshares : K.lookup fPshares = some ⟨ocPshares, odPshares, .func (PySem.W.fnOf "shares" "Lot.shares" (defArgs s_Lot_shares) (defBody s_Lot_shares) (defScope s_Lot_shares) .none kVPshares dcPshares pmPshares anPshares cdPshares ctPshares), slPshares⟩)
    (cPshares : PySem.W.codeIn K cdPshares "Lot.shares" = true)
    (kPshares : PySem.W.keepIn K (.ref fPshares) = true)
    (atPhands : PySem.W.findIn K (.ref C) "hands" = some (some (.ref pPhands)))
    (rePhands_ : PySem.W.recIn K pPhands "property" = some (.ref fPhands :: rePhands))
    (gePhands : PySem.W.specialIn K (.ref pPhands) "__get__" = some (some (.builtin "property.__get__")))
    (taPhands : PySem.W.takesIn K (.ref pPhands) = some true)
    (lPhands : K.lookup fPhands = some ⟨ocPhands, odPhands, .func (PySem.W.fnOf "hands" "Lot.hands" (defArgs s_Lot_hands) (defBody s_Lot_hands) (defScope s_Lot_hands) .none kVPhands dcPhands pmPhands anPhands cdPhands ctPhands), slPhands⟩)
    (cPhands : PySem.W.codeIn K cdPhands "Lot.hands" = true)
    (kPhands : PySem.W.keepIn K (.ref fPhands) = true)
    (atPspan : PySem.W.findIn K (.ref C) "span" = some (some (.ref pPspan)))
    (rePspan_ : PySem.W.recIn K pPspan "property" = some (.ref fPspan :: rePspan))
    (gePspan : PySem.W.specialIn K (.ref pPspan) "__get__" = some (some (.builtin "property.__get__")))
    (taPspan : PySem.W.takesIn K (.ref pPspan) = some true)
    (lPspan : K.lookup fPspan = some ⟨ocPspan, odPspan, .func (PySem.W.fnOf "span" "Lot.span" (defArgs s_Lot_span) (defBody s_Lot_span) (defScope s_Lot_span) .none kVPspan dcPspan pmPspan anPspan cdPspan ctPspan), slPspan⟩)
    (cPspan : PySem.W.codeIn K cdPspan "Lot.span" = true)
    (kPspan : PySem.W.keepIn K (.ref fPspan) = true)
    (aSrepr : PySem.W.findIn K (.ref C) "__repr__" = some (some (.ref fSrepr)))
    (lSrepr : K.lookup fSrepr = some ⟨ocSrepr, odSrepr, .func (PySem.W.fnOf "__repr__" "Lot.__repr__" (defArgs s_Lot___repr__) (defBody s_Lot___repr__) (defScope s_Lot___repr__) .none kVSrepr dcSrepr pmSrepr anSrepr cdSrepr ctSrepr), slSrepr⟩)
    (cSrepr : PySem.W.codeIn K cdSrepr "Lot.__repr__" = true)
    (kSrepr : PySem.W.keepIn K (.ref fSrepr) = true)
    (iSrepr : PySem.W.isFn K (.ref fSrepr) = true)
    (aCW : PySem.W.nsIn K mainGlobals "Walk" = some (some (.ref CW)))
    (aWI : PySem.W.findIn K (.ref CW) "__init__" = some (some (.ref fWI)))
    (lWI : K.lookup fWI = some ⟨ocWI, odWI, .func (PySem.W.fnOf "__init__" "Walk.__init__" (defArgs s_Walk___init__) (defBody s_Walk___init__) (defScope s_Walk___init__) .none kVWI dcWI pmWI anWI cdWI ctWI), slWI⟩)
    (cWI : PySem.W.codeIn K cdWI "Walk.__init__" = true)
    (kWI : PySem.W.keepIn K (.ref fWI) = true)
    (iWI : PySem.W.isFn K (.ref fWI) = true)
    (pgW : PySem.W.plainGet K CW Str.empty = true)
    (hdW : PySem.W.hasDictIn K CW = true)
    (poW : PySem.W.plainOver K CW = true)
    (saW : PySem.W.findIn K (.ref CW) "__setattr__" = some (some (.builtin "object.__setattr__")))
    (mkW : PySem.W.makesIn K CW = true)
    (kcW : PySem.W.keepIn K (.ref CW) = true)
    (nW0 : PySem.W.findIn K (.ref CW) "ticks" = some none)
    (nW1 : PySem.W.findIn K (.ref CW) "most" = some none)
    (nW2 : PySem.W.findIn K (.ref CW) "sizes" = some none)
    (nW3 : PySem.W.findIn K (.ref CW) "parts" = some none)
    (nW4 : PySem.W.findIn K (.ref CW) "lows" = some none)
    (nW5 : PySem.W.findIn K (.ref CW) "doubles" = some none)
    (nW6 : PySem.W.findIn K (.ref CW) "grown" = some none)
    (nW7 : PySem.W.findIn K (.ref CW) "living" = some none)
    (aWis_alive : PySem.W.findIn K (.ref CW) "is_alive" = some (some (.ref fWis_alive)))
    (lWis_alive : K.lookup fWis_alive = some ⟨ocWis_alive, odWis_alive, .func (PySem.W.fnOf "is_alive" "Walk.is_alive" (defArgs s_Walk_is_alive) (defBody s_Walk_is_alive) (defScope s_Walk_is_alive) .none kVWis_alive dcWis_alive pmWis_alive anWis_alive cdWis_alive ctWis_alive), slWis_alive⟩)
    (cWis_alive : PySem.W.codeIn K cdWis_alive "Walk.is_alive" = true)
    (kWis_alive : PySem.W.keepIn K (.ref fWis_alive) = true)
    (iWis_alive : PySem.W.isFn K (.ref fWis_alive) = true)
    (aWcrews : PySem.W.findIn K (.ref CW) "crews" = some (some (.ref fWcrews)))
    (lWcrews : K.lookup fWcrews = some ⟨ocWcrews, odWcrews, .func (PySem.W.fnOf "crews" "Walk.crews" (defArgs s_Walk_crews) (defBody s_Walk_crews) (defScope s_Walk_crews) .none kVWcrews dcWcrews pmWcrews anWcrews cdWcrews ctWcrews), slWcrews⟩)
    (cWcrews : PySem.W.codeIn K cdWcrews "Walk.crews" = true)
    (kWcrews : PySem.W.keepIn K (.ref fWcrews) = true)
    (iWcrews : PySem.W.isFn K (.ref fWcrews) = true)
    (aWchoices : PySem.W.findIn K (.ref CW) "choices" = some (some (.ref fWchoices)))
    (lWchoices : K.lookup fWchoices = some ⟨ocWchoices, odWchoices, .func (PySem.W.fnOf "choices" "Walk.choices" (defArgs s_Walk_choices) (defBody s_Walk_choices) (defScope s_Walk_choices) .none kVWchoices dcWchoices pmWchoices anWchoices cdWchoices ctWchoices), slWchoices⟩)
    (cWchoices : PySem.W.codeIn K cdWchoices "Walk.choices" = true)
    (kWchoices : PySem.W.keepIn K (.ref fWchoices) = true)
    (iWchoices : PySem.W.isFn K (.ref fWchoices) = true)
    (no0 : PySem.W.kitOne K (.type "dict") (.ref C) = some false)
    (no1 : PySem.W.kitOne K (.type "NoneType") (.ref C) = some false)
    (no2 : PySem.W.kitOne K (.type "bool") (.ref C) = some false)
    (no3 : PySem.W.kitOne K (.type "int") (.ref C) = some false)
    (no4 : PySem.W.kitOne K (.type "str") (.ref C) = some false)
    (no5 : PySem.W.kitOne K (.type "list") (.ref C) = some false)
    (no6 : PySem.W.kitOne K (.type "tuple") (.ref C) = some false)
    (en0 : PySem.W.nsIn K mainGlobals "InvalidText" = some (some (.ref e0)))
    (en1 : PySem.W.nsIn K mainGlobals "InvalidNumber" = some (some (.ref e1)))
    (en2 : PySem.W.nsIn K mainGlobals "InvalidName" = some (some (.ref e2)))
    (en3 : PySem.W.nsIn K mainGlobals "InvalidShare" = some (some (.ref e3)))
    (en4 : PySem.W.nsIn K mainGlobals "InvalidStanding" = some (some (.ref e4)))
    (en5 : PySem.W.nsIn K mainGlobals "NotALot" = some (some (.ref e5)))
    (en6 : PySem.W.nsIn K mainGlobals "InvalidLog" = some (some (.ref e6)))
    (en7 : PySem.W.nsIn K mainGlobals "InvalidForms" = some (some (.ref e7)))
    (en8 : PySem.W.nsIn K mainGlobals "UnknownName" = some (some (.ref e8)))
    (en9 : PySem.W.nsIn K mainGlobals "TooMany" = some (some (.ref e9)))
    (en10 : PySem.W.nsIn K mainGlobals "Alone" = some (some (.ref e10)))
    (ev0 : PySem.W.nsIn K mainGlobals "WrongValue" = some (some (.ref v0)))
    (ev1 : PySem.W.nsIn K mainGlobals "WrongName" = some (some (.ref v1)))
    (ev2 : PySem.W.nsIn K mainGlobals "NoAnswer" = some (some (.ref v2)))
    (ez0 : PySem.W.nsIn K mainGlobals "ValueError" = some none)
    (ez1 : PySem.W.nsIn K mainGlobals "LookupError" = some none)
    (ez2 : PySem.W.nsIn K mainGlobals "ArithmeticError" = some none)
    (xcb : PySem.W.specialIn K (.builtin "object.__class__") "__get__" = some (some (.builtin "getset_descriptor.__get__")))
    (xcc : PySem.W.takesIn K (.builtin "object.__class__") = some true)
    (xei1 : PySem.W.excInitIn K e1 [.type "ValueError", .type "Exception", .type "BaseException", .type "object"] "ValueError.__new__" = true)
    (xeo1 : PySem.W.excOver K e1 [.type "ValueError", .type "Exception", .type "BaseException", .type "object"] = true)
    (xsa1 : PySem.W.findIn K (.ref e1) "__setattr__" = some (some (.builtin "object.__setattr__")))
    (xga1 : PySem.W.findIn K (.ref e1) "__getattribute__" = some (some (.builtin "BaseException.__getattribute__")))
    (xgg1 : PySem.W.findIn K (.ref e1) "__getattr__" = some none)
    (xca1 : PySem.W.findIn K (.ref e1) "__class__" = some (some (.builtin "object.__class__")))
    (xno1 : PySem.W.findIn K (.ref e1) "given" = some none)
    (xsb1 : PySem.W.subIn K (.ref e1) (.type "BaseException") = some true)
    (xty1 : PySem.W.typeIn K (.ref e1) = some (.type "type"))
    (xkc1 : PySem.W.keepIn K (.ref e1) = true)
    (xic1 : PySem.W.isClsIn K e1 = true)
    (xcm1 : PySem.W.mroIn K e1 (.type "object") = some true)
    (xhd1 : PySem.W.hasDictIn K e1 = true)
    (aX1 : PySem.W.findIn K (.ref e1) "__init__" = some (some (.ref fX1)))
    (lX1 : K.lookup fX1 = some ⟨ocX1, odX1, .func (PySem.W.fnOf "__init__" "InvalidNumber.__init__" (defArgs s_InvalidNumber___init__) (defBody s_InvalidNumber___init__) (defScope s_InvalidNumber___init__) .none kVX1 dcX1 pmX1 anX1 cdX1 ctX1), slX1⟩)
    (cX1 : PySem.W.codeIn K cdX1 "InvalidNumber.__init__" = true)
    (kX1 : PySem.W.keepIn K (.ref fX1) = true)
    (xti1 : PySem.W.typeIn K (.ref fX1) = some (.type "function"))
    (xk1_0 : PySem.W.kitOne K (.ref e1) (.ref e0) = some false)
    (xk1_1 : PySem.W.kitOne K (.ref e1) (.ref e1) = some true)
    (xk1_2 : PySem.W.kitOne K (.ref e1) (.ref e2) = some false)
    (xk1_3 : PySem.W.kitOne K (.ref e1) (.ref e3) = some false)
    (xk1_4 : PySem.W.kitOne K (.ref e1) (.ref e4) = some false)
    (xk1_5 : PySem.W.kitOne K (.ref e1) (.ref e5) = some false)
    (xk1_6 : PySem.W.kitOne K (.ref e1) (.ref e6) = some false)
    (xk1_7 : PySem.W.kitOne K (.ref e1) (.ref e7) = some false)
    (xk1_8 : PySem.W.kitOne K (.ref e1) (.ref e8) = some false)
    (xk1_9 : PySem.W.kitOne K (.ref e1) (.ref e9) = some false)
    (xk1_10 : PySem.W.kitOne K (.ref e1) (.ref e10) = some false)
    (xv1_0 : PySem.W.kitOne K (.ref e1) (.ref v0) = some true)
    (xv1_1 : PySem.W.kitOne K (.ref e1) (.ref v1) = some false)
    (xv1_2 : PySem.W.kitOne K (.ref e1) (.ref v2) = some false)
    (xp1_0 : PySem.W.kitOne K (.ref e1) (.type "ValueError") = some true)
    (xp1_1 : PySem.W.kitOne K (.ref e1) (.type "LookupError") = some false)
    (xp1_2 : PySem.W.kitOne K (.ref e1) (.type "ArithmeticError") = some false)
    (xan1 : PySem.W.exmAny K (.ref e1) [.ref v0, .ref v1, .ref v2] = some true)
    (xei4 : PySem.W.excInitIn K e4 [.type "ValueError", .type "Exception", .type "BaseException", .type "object"] "ValueError.__new__" = true)
    (xeo4 : PySem.W.excOver K e4 [.type "ValueError", .type "Exception", .type "BaseException", .type "object"] = true)
    (xsa4 : PySem.W.findIn K (.ref e4) "__setattr__" = some (some (.builtin "object.__setattr__")))
    (xga4 : PySem.W.findIn K (.ref e4) "__getattribute__" = some (some (.builtin "BaseException.__getattribute__")))
    (xgg4 : PySem.W.findIn K (.ref e4) "__getattr__" = some none)
    (xca4 : PySem.W.findIn K (.ref e4) "__class__" = some (some (.builtin "object.__class__")))
    (xno4 : PySem.W.findIn K (.ref e4) "given" = some none)
    (xsb4 : PySem.W.subIn K (.ref e4) (.type "BaseException") = some true)
    (xty4 : PySem.W.typeIn K (.ref e4) = some (.type "type"))
    (xkc4 : PySem.W.keepIn K (.ref e4) = true)
    (xic4 : PySem.W.isClsIn K e4 = true)
    (xcm4 : PySem.W.mroIn K e4 (.type "object") = some true)
    (xhd4 : PySem.W.hasDictIn K e4 = true)
    (aX4 : PySem.W.findIn K (.ref e4) "__init__" = some (some (.ref fX4)))
    (lX4 : K.lookup fX4 = some ⟨ocX4, odX4, .func (PySem.W.fnOf "__init__" "InvalidStanding.__init__" (defArgs s_InvalidStanding___init__) (defBody s_InvalidStanding___init__) (defScope s_InvalidStanding___init__) .none kVX4 dcX4 pmX4 anX4 cdX4 ctX4), slX4⟩)
    (cX4 : PySem.W.codeIn K cdX4 "InvalidStanding.__init__" = true)
    (kX4 : PySem.W.keepIn K (.ref fX4) = true)
    (xti4 : PySem.W.typeIn K (.ref fX4) = some (.type "function"))
    (xk4_0 : PySem.W.kitOne K (.ref e4) (.ref e0) = some false)
    (xk4_1 : PySem.W.kitOne K (.ref e4) (.ref e1) = some false)
    (xk4_2 : PySem.W.kitOne K (.ref e4) (.ref e2) = some false)
    (xk4_3 : PySem.W.kitOne K (.ref e4) (.ref e3) = some false)
    (xk4_4 : PySem.W.kitOne K (.ref e4) (.ref e4) = some true)
    (xk4_5 : PySem.W.kitOne K (.ref e4) (.ref e5) = some false)
    (xk4_6 : PySem.W.kitOne K (.ref e4) (.ref e6) = some false)
    (xk4_7 : PySem.W.kitOne K (.ref e4) (.ref e7) = some false)
    (xk4_8 : PySem.W.kitOne K (.ref e4) (.ref e8) = some false)
    (xk4_9 : PySem.W.kitOne K (.ref e4) (.ref e9) = some false)
    (xk4_10 : PySem.W.kitOne K (.ref e4) (.ref e10) = some false)
    (xv4_0 : PySem.W.kitOne K (.ref e4) (.ref v0) = some true)
    (xv4_1 : PySem.W.kitOne K (.ref e4) (.ref v1) = some false)
    (xv4_2 : PySem.W.kitOne K (.ref e4) (.ref v2) = some false)
    (xp4_0 : PySem.W.kitOne K (.ref e4) (.type "ValueError") = some true)
    (xp4_1 : PySem.W.kitOne K (.ref e4) (.type "LookupError") = some false)
    (xp4_2 : PySem.W.kitOne K (.ref e4) (.type "ArithmeticError") = some false)
    (xan4 : PySem.W.exmAny K (.ref e4) [.ref v0, .ref v1, .ref v2] = some true)
    (xei5 : PySem.W.excInitIn K e5 [.type "ValueError", .type "Exception", .type "BaseException", .type "object"] "ValueError.__new__" = true)
    (xeo5 : PySem.W.excOver K e5 [.type "ValueError", .type "Exception", .type "BaseException", .type "object"] = true)
    (xsa5 : PySem.W.findIn K (.ref e5) "__setattr__" = some (some (.builtin "object.__setattr__")))
    (xga5 : PySem.W.findIn K (.ref e5) "__getattribute__" = some (some (.builtin "BaseException.__getattribute__")))
    (xgg5 : PySem.W.findIn K (.ref e5) "__getattr__" = some none)
    (xca5 : PySem.W.findIn K (.ref e5) "__class__" = some (some (.builtin "object.__class__")))
    (xno5 : PySem.W.findIn K (.ref e5) "given" = some none)
    (xsb5 : PySem.W.subIn K (.ref e5) (.type "BaseException") = some true)
    (xty5 : PySem.W.typeIn K (.ref e5) = some (.type "type"))
    (xkc5 : PySem.W.keepIn K (.ref e5) = true)
    (xic5 : PySem.W.isClsIn K e5 = true)
    (xcm5 : PySem.W.mroIn K e5 (.type "object") = some true)
    (xhd5 : PySem.W.hasDictIn K e5 = true)
    (aX5 : PySem.W.findIn K (.ref e5) "__init__" = some (some (.ref fX5)))
    (lX5 : K.lookup fX5 = some ⟨ocX5, odX5, .func (PySem.W.fnOf "__init__" "NotALot.__init__" (defArgs s_NotALot___init__) (defBody s_NotALot___init__) (defScope s_NotALot___init__) .none kVX5 dcX5 pmX5 anX5 cdX5 ctX5), slX5⟩)
    (cX5 : PySem.W.codeIn K cdX5 "NotALot.__init__" = true)
    (kX5 : PySem.W.keepIn K (.ref fX5) = true)
    (xti5 : PySem.W.typeIn K (.ref fX5) = some (.type "function"))
    (xk5_0 : PySem.W.kitOne K (.ref e5) (.ref e0) = some false)
    (xk5_1 : PySem.W.kitOne K (.ref e5) (.ref e1) = some false)
    (xk5_2 : PySem.W.kitOne K (.ref e5) (.ref e2) = some false)
    (xk5_3 : PySem.W.kitOne K (.ref e5) (.ref e3) = some false)
    (xk5_4 : PySem.W.kitOne K (.ref e5) (.ref e4) = some false)
    (xk5_5 : PySem.W.kitOne K (.ref e5) (.ref e5) = some true)
    (xk5_6 : PySem.W.kitOne K (.ref e5) (.ref e6) = some false)
    (xk5_7 : PySem.W.kitOne K (.ref e5) (.ref e7) = some false)
    (xk5_8 : PySem.W.kitOne K (.ref e5) (.ref e8) = some false)
    (xk5_9 : PySem.W.kitOne K (.ref e5) (.ref e9) = some false)
    (xk5_10 : PySem.W.kitOne K (.ref e5) (.ref e10) = some false)
    (xv5_0 : PySem.W.kitOne K (.ref e5) (.ref v0) = some true)
    (xv5_1 : PySem.W.kitOne K (.ref e5) (.ref v1) = some false)
    (xv5_2 : PySem.W.kitOne K (.ref e5) (.ref v2) = some false)
    (xp5_0 : PySem.W.kitOne K (.ref e5) (.type "ValueError") = some true)
    (xp5_1 : PySem.W.kitOne K (.ref e5) (.type "LookupError") = some false)
    (xp5_2 : PySem.W.kitOne K (.ref e5) (.type "ArithmeticError") = some false)
    (xan5 : PySem.W.exmAny K (.ref e5) [.ref v0, .ref v1, .ref v2] = some true)
    (xei9 : PySem.W.excInitIn K e9 [.type "ArithmeticError", .type "Exception", .type "BaseException", .type "object"] "ArithmeticError.__new__" = true)
    (xeo9 : PySem.W.excOver K e9 [.type "ArithmeticError", .type "Exception", .type "BaseException", .type "object"] = true)
    (xsa9 : PySem.W.findIn K (.ref e9) "__setattr__" = some (some (.builtin "object.__setattr__")))
    (xga9 : PySem.W.findIn K (.ref e9) "__getattribute__" = some (some (.builtin "BaseException.__getattribute__")))
    (xgg9 : PySem.W.findIn K (.ref e9) "__getattr__" = some none)
    (xca9 : PySem.W.findIn K (.ref e9) "__class__" = some (some (.builtin "object.__class__")))
    (xno9 : PySem.W.findIn K (.ref e9) "limit" = some none)
    (xsb9 : PySem.W.subIn K (.ref e9) (.type "BaseException") = some true)
    (xty9 : PySem.W.typeIn K (.ref e9) = some (.type "type"))
    (xkc9 : PySem.W.keepIn K (.ref e9) = true)
    (xic9 : PySem.W.isClsIn K e9 = true)
    (xcm9 : PySem.W.mroIn K e9 (.type "object") = some true)
    (xhd9 : PySem.W.hasDictIn K e9 = true)
    (aX9 : PySem.W.findIn K (.ref e9) "__init__" = some (some (.ref fX9)))
    (lX9 : K.lookup fX9 = some ⟨ocX9, odX9, .func (PySem.W.fnOf "__init__" "TooMany.__init__" (defArgs s_TooMany___init__) (defBody s_TooMany___init__) (defScope s_TooMany___init__) .none kVX9 dcX9 pmX9 anX9 cdX9 ctX9), slX9⟩)
    (cX9 : PySem.W.codeIn K cdX9 "TooMany.__init__" = true)
    (kX9 : PySem.W.keepIn K (.ref fX9) = true)
    (xti9 : PySem.W.typeIn K (.ref fX9) = some (.type "function"))
    (xk9_0 : PySem.W.kitOne K (.ref e9) (.ref e0) = some false)
    (xk9_1 : PySem.W.kitOne K (.ref e9) (.ref e1) = some false)
    (xk9_2 : PySem.W.kitOne K (.ref e9) (.ref e2) = some false)
    (xk9_3 : PySem.W.kitOne K (.ref e9) (.ref e3) = some false)
    (xk9_4 : PySem.W.kitOne K (.ref e9) (.ref e4) = some false)
    (xk9_5 : PySem.W.kitOne K (.ref e9) (.ref e5) = some false)
    (xk9_6 : PySem.W.kitOne K (.ref e9) (.ref e6) = some false)
    (xk9_7 : PySem.W.kitOne K (.ref e9) (.ref e7) = some false)
    (xk9_8 : PySem.W.kitOne K (.ref e9) (.ref e8) = some false)
    (xk9_9 : PySem.W.kitOne K (.ref e9) (.ref e9) = some true)
    (xk9_10 : PySem.W.kitOne K (.ref e9) (.ref e10) = some false)
    (xv9_0 : PySem.W.kitOne K (.ref e9) (.ref v0) = some false)
    (xv9_1 : PySem.W.kitOne K (.ref e9) (.ref v1) = some false)
    (xv9_2 : PySem.W.kitOne K (.ref e9) (.ref v2) = some true)
    (xp9_0 : PySem.W.kitOne K (.ref e9) (.type "ValueError") = some false)
    (xp9_1 : PySem.W.kitOne K (.ref e9) (.type "LookupError") = some false)
    (xp9_2 : PySem.W.kitOne K (.ref e9) (.type "ArithmeticError") = some true)
    (xan9 : PySem.W.exmAny K (.ref e9) [.ref v0, .ref v1, .ref v2] = some true)
    (o0 : PySem.W.nsIn K mainGlobals "MOST_WORKS" = some (some (.int 6 t0)))
    (o1 : PySem.W.nsIn K mainGlobals "MOST_HANDS" = some (some (.int 6 t1)))
    (o2 : PySem.W.nsIn K mainGlobals "MOST_PERIOD" = some (some (.int 16 t2)))
    (o3 : PySem.W.nsIn K mainGlobals "LONGEST_NAME" = some (some (.int 8 t3)))
    (o4 : PySem.W.nsIn K mainGlobals "LETTERS" = some (some (.str (Str.ofString "abcdefghijklmnopqrstuvwxyz") t4)))
    (oFARTHEST : PySem.W.nsIn K mainGlobals "FARTHEST" = some (some (.int 1000000000000000000000000000000 tFARTHEST)))
    (oMOST_ROUND : PySem.W.nsIn K mainGlobals "MOST_ROUND" = some (some (.int 720 tMOST_ROUND)))
    (zlen : PySem.W.nsIn K mainGlobals "len" = some none)
    (zrange : PySem.W.nsIn K mainGlobals "range" = some none)
    (zabs : PySem.W.nsIn K mainGlobals "abs" = some none)
    (zdivmod : PySem.W.nsIn K mainGlobals "divmod" = some none)
    (zint : PySem.W.nsIn K mainGlobals "int" = some none)
    (zstr : PySem.W.nsIn K mainGlobals "str" = some none)
    (zbool : PySem.W.nsIn K mainGlobals "bool" = some none)
    (zrepr : PySem.W.nsIn K mainGlobals "repr" = some none)
    (zisinstance : PySem.W.nsIn K mainGlobals "isinstance" = some none)
    (ztuple : PySem.W.nsIn K mainGlobals "tuple" = some none)
    (zlist : PySem.W.nsIn K mainGlobals "list" = some none)
    (zdict : PySem.W.nsIn K mainGlobals "dict" = some none)
    (zzip : PySem.W.nsIn K mainGlobals "zip" = some none)
    (zsum : PySem.W.nsIn K mainGlobals "sum" = some none)
    (zall : PySem.W.nsIn K mainGlobals "all" = some none)
    (zmax : PySem.W.nsIn K mainGlobals "max" = some none)
    (zmin : PySem.W.nsIn K mainGlobals "min" = some none)
    (zsorted : PySem.W.nsIn K mainGlobals "sorted" = some none)
    (zset : PySem.W.nsIn K mainGlobals "set" = some none)
    (zenumerate : PySem.W.nsIn K mainGlobals "enumerate" = some none)
    (g_gcd : PySem.W.nsIn K mainGlobals "gcd" = some (some (.builtin "math.gcd")))
    (g_lcm : PySem.W.nsIn K mainGlobals "lcm" = some (some (.builtin "math.lcm")))
    : ∃ (fd : FuncData), (∀ p ∈ (lamT pl17 "_law_right" : List (Addr × Str)), ∃ c, (c, p.1) ∈ ([(cl17, pl17)] : List (Addr × Addr))) ∧ (∀ (s : Shared) (u : Value), BindsTo s fd ⟨[u], []⟩ [("_law_script", u)]) ∧ ∀ base : Heap, (∀ p ∈ ([(cl17, pl17)] : List (Addr × Addr)), TabB base mg p.1 p.2) → FnG l.prog w K mg base 12 fa fd ["_law_script"] (spLawT K (lamT pl17 "_law_right")) := by
  have D__law_basin : DefAt K mg "_law_basin" s__law_basin := ⟨_, _, fun_mk l0 c0 k0, PySem.W.mg_of X G a0⟩
  have D__law_ladle : DefAt K mg "_law_ladle" s__law_ladle := ⟨_, _, fun_mk l1 c1 k1, PySem.W.mg_of X G a1⟩
  have D__law_tags : DefAt K mg "_law_tags" s__law_tags := ⟨_, _, fun_mk l2 c2 k2, PySem.W.mg_of X G a2⟩
  have D__law_lowest : DefAt K mg "_law_lowest" s__law_lowest := ⟨_, _, fun_mk l3 c3 k3, PySem.W.mg_of X G a3⟩
  have D__law_part : DefAt K mg "_law_part" s__law_part := ⟨_, _, fun_mk l4 c4 k4, PySem.W.mg_of X G a4⟩
  have D__law_jobs : DefAt K mg "_law_jobs" s__law_jobs := ⟨_, _, fun_mk l5 c5 k5, PySem.W.mg_of X G a5⟩
  have D__law_page : DefAt K mg "_law_page" s__law_page := ⟨_, _, fun_mk l6 c6 k6, PySem.W.mg_of X G a6⟩
  have D__law_cycle : DefAt K mg "_law_cycle" s__law_cycle := ⟨_, _, fun_mk l7 c7 k7, PySem.W.mg_of X G a7⟩
  have D__law_within : DefAt K mg "_law_within" s__law_within := ⟨_, _, fun_mk l8 c8 k8, PySem.W.mg_of X G a8⟩
  have D__law_bases : DefAt K mg "_law_bases" s__law_bases := ⟨_, _, fun_mk l9 c9 k9, PySem.W.mg_of X G a9⟩
  have D__law_class : DefAt K mg "_law_class" s__law_class := ⟨_, _, fun_mk l10 c10 k10, PySem.W.mg_of X G a10⟩
  have D__law_heard : DefAt K mg "_law_heard" s__law_heard := ⟨_, _, fun_mk l11 c11 k11, PySem.W.mg_of X G a11⟩
  have D__law_same : DefAt K mg "_law_same" s__law_same := ⟨_, _, fun_mk l12 c12 k12, PySem.W.mg_of X G a12⟩
  have D__law_no_lot : DefAt K mg "_law_no_lot" s__law_no_lot := ⟨_, _, fun_mk l13 c13 k13, PySem.W.mg_of X G a13⟩
  have D__law_kept : DefAt K mg "_law_kept" s__law_kept := ⟨_, _, fun_mk l14 c14 k14, PySem.W.mg_of X G a14⟩
  have D__law_row : DefAt K mg "_law_row" s__law_row := ⟨_, _, fun_mk l15 c15 k15, PySem.W.mg_of X G a15⟩
  have D__law_is_row : DefAt K mg "_law_is_row" s__law_is_row := ⟨_, _, fun_mk l16 c16 k16, PySem.W.mg_of X G a16⟩
  have D__law_right : DefAtC K mg "_law_right" s__law_right cl17 := ⟨_, _, fun_mk l17 c17 k17, PySem.W.mg_of X G a17, rfl⟩
  have D_law : DefAt K mg "law" s_law := ⟨_, _, fun_mk l18 c18 k18, PySem.W.mg_of X G a18⟩
  have D_crew_of : DefAt K mg "crew_of" s_crew_of := ⟨_, _, fun_mk l19 c19 k19, PySem.W.mg_of X G a19⟩
  have D_members_of : DefAt K mg "members_of" s_members_of := ⟨_, _, fun_mk l20 c20 k20, PySem.W.mg_of X G a20⟩
  have D_sizes_of_crews : DefAt K mg "sizes_of_crews" s_sizes_of_crews := ⟨_, _, fun_mk l21 c21 k21, PySem.W.mg_of X G a21⟩
  have D_parts_of_crews : DefAt K mg "parts_of_crews" s_parts_of_crews := ⟨_, _, fun_mk l22 c22 k22, PySem.W.mg_of X G a22⟩
  have D_is_number : DefAt K mg "is_number" s_is_number := ⟨_, _, fun_mk l23 c23 k23, PySem.W.mg_of X G a23⟩
  have D_is_number_from : DefAt K mg "is_number_from" s_is_number_from := ⟨_, _, fun_mk l24 c24 k24, PySem.W.mg_of X G a24⟩
  have D_is_name : DefAt K mg "is_name" s_is_name := ⟨_, _, fun_mk l25 c25 k25, PySem.W.mg_of X G a25⟩
  have D_is_share : DefAt K mg "is_share" s_is_share := ⟨_, _, fun_mk l26 c26 k26, PySem.W.mg_of X G a26⟩
  have D_check_number : DefAt K mg "check_number" s_check_number := ⟨_, _, fun_mk l27 c27 k27, PySem.W.mg_of X G a27⟩
  have D_check_moment : DefAt K mg "check_moment" s_check_moment := ⟨_, _, fun_mk l28 c28 k28, PySem.W.mg_of X G a28⟩
  have D_check_lot : DefAt K mg "check_lot" s_check_lot := ⟨_, _, fun_mk l29 c29 k29, PySem.W.mg_of X G a29⟩
  have D_check_round : DefAt K mg "check_round" s_check_round := ⟨_, _, fun_mk l30 c30 k30, PySem.W.mg_of X G a30⟩
  have D__read_hands : DefAt K mg "_read_hands" s__read_hands := ⟨_, _, fun_mk l31 c31 k31, PySem.W.mg_of X G a31⟩
  have D__read_works : DefAt K mg "_read_works" s__read_works := ⟨_, _, fun_mk l32 c32 k32, PySem.W.mg_of X G a32⟩
  have D__read_work : DefAt K mg "_read_work" s__read_work := ⟨_, _, fun_mk l33 c33 k33, PySem.W.mg_of X G a33⟩
  have D__read_number : DefAt K mg "_read_number" s__read_number := ⟨_, _, fun_mk l34 c34 k34, PySem.W.mg_of X G a34⟩
  have D__span_of : DefAt K mg "_span_of" s__span_of := ⟨_, _, fun_mk l35 c35 k35, PySem.W.mg_of X G a35⟩
  have D__total_of : DefAt K mg "_total_of" s__total_of := ⟨_, _, fun_mk l36 c36 k36, PySem.W.mg_of X G a36⟩
  have D_all_picks : DefAt K mg "all_picks" s_all_picks := ⟨_, _, fun_mk l37 c37 k37, PySem.W.mg_of X G a37⟩
  have D_turns_of : DefAt K mg "turns_of" s_turns_of := ⟨_, _, fun_mk l38 c38 k38, PySem.W.mg_of X G a38⟩
  have D__quotient_up : DefAt K mg "_quotient_up" s__quotient_up := ⟨_, _, fun_mk l39 c39 k39, PySem.W.mg_of X G a39⟩
  have D_round_of : DefAt K mg "round_of" s_round_of := ⟨_, _, fun_mk l40 c40 k40, PySem.W.mg_of X G a40⟩
  have D__grown_between : DefAt K mg "_grown_between" s__grown_between := ⟨_, _, fun_mk l41 c41 k41, PySem.W.mg_of X G a41⟩
  have D__living_of : DefAt K mg "_living_of" s__living_of := ⟨_, _, fun_mk l42 c42 k42, PySem.W.mg_of X G a42⟩
  have D__standings_before : DefAt K mg "_standings_before" s__standings_before := ⟨_, _, fun_mk l43 c43 k43, PySem.W.mg_of X G a43⟩
  have D_standings : DefAt K mg "standings" s_standings := ⟨_, _, fun_mk l44 c44 k44, PySem.W.mg_of X G a44⟩
  have D_alive : DefAt K mg "alive" s_alive := ⟨_, _, fun_mk l45 c45 k45, PySem.W.mg_of X G a45⟩
  have D_choices : DefAt K mg "choices" s_choices := ⟨_, _, fun_mk l46 c46 k46, PySem.W.mg_of X G a46⟩
  have D_check_standing : DefAt K mg "check_standing" s_check_standing := ⟨_, _, fun_mk l47 c47 k47, PySem.W.mg_of X G a47⟩
  have D_ahead_in : DefAt K mg "ahead_in" s_ahead_in := ⟨_, _, fun_mk l48 c48 k48, PySem.W.mg_of X G a48⟩
  have D__numbers_at : DefAt K mg "_numbers_at" s__numbers_at := ⟨_, _, fun_mk l49 c49 k49, PySem.W.mg_of X G a49⟩
  have B0 : Blt0 mg := ⟨PySem.W.mg_none_of X G zlen, PySem.W.mg_none_of X G zrange, PySem.W.mg_none_of X G zabs, PySem.W.mg_none_of X G zdivmod, PySem.W.mg_none_of X G zint, PySem.W.mg_none_of X G zstr, PySem.W.mg_none_of X G zbool, PySem.W.mg_none_of X G zrepr, PySem.W.mg_none_of X G zisinstance, PySem.W.mg_none_of X G ztuple, PySem.W.mg_none_of X G zlist, PySem.W.mg_none_of X G zdict, PySem.W.mg_none_of X G zzip, PySem.W.mg_none_of X G zsum, PySem.W.mg_none_of X G zall, PySem.W.mg_none_of X G zmax, PySem.W.mg_none_of X G zmin, PySem.W.mg_none_of X G zsorted, PySem.W.mg_none_of X G zset, PySem.W.mg_none_of X G zenumerate⟩
  have B : Blt mg := ⟨B0, PySem.W.mg_of X G g_gcd, PySem.W.mg_of X G g_lcm⟩
  have C2 : Cst mg := ⟨⟨_, PySem.W.mg_of X G o0⟩, ⟨_, PySem.W.mg_of X G o1⟩, ⟨_, PySem.W.mg_of X G o2⟩, ⟨_, PySem.W.mg_of X G o3⟩, ⟨_, PySem.W.mg_of X G o4⟩⟩
  have T : LotC K mg C := ⟨⟨pg, hd, po, sa⟩, n0, n1, n2, n3, n4, n5, PySem.W.mg_of X G aC⟩
  have I : LotI K C := ⟨ca, cb, cc, cm⟩
  have FI := fun_mk (st := s_Lot___init__) lI cI kI
  have W : WalkC K mg CW := ⟨⟨pgW, hdW, poW, saW⟩, nW0, nW1, nW2, nW3, nW4, nW5, nW6, nW7, PySem.W.mg_of X G aCW⟩
  have FWI := fun_mk (st := s_Walk___init__) lWI cWI kWI
  have F_Wis_alive := fun_mk (st := s_Walk_is_alive) lWis_alive cWis_alive kWis_alive
  have F_Wcrews := fun_mk (st := s_Walk_crews) lWcrews cWcrews kWcrews
  have F_Wchoices := fun_mk (st := s_Walk_choices) lWchoices cWchoices kWchoices
  have F_Srepr := fun_mk (st := s_Lot___repr__) lSrepr cSrepr kSrepr
  have F_text := fun_mk (st := s_Lot_text) lPtext cPtext kPtext
  have F_shares := fun_mk (st := s_Lot_shares) lPshares cPshares kPshares
  have F_hands := fun_mk (st := s_Lot_hands) lPhands cPhands kPhands
  have F_span := fun_mk (st := s_Lot_span) lPspan cPspan kPspan
  obtain ⟨f, fd, F, hm⟩ := D_law.ex
  cases hfa.symm.trans hm
  refine ⟨fd, ?_, ?_, fun base hTB => ?_⟩
  · intro p hp
    simp only [lamT, List.cons_append, List.nil_append, List.mem_cons, List.mem_nil_iff, or_false, List.not_mem_nil] at hp
    rcases hp with rfl
    · exact ⟨cl17, by simp⟩
  · obtain ⟨oc, od, kV, doc, pm, an, cdv, ct, osl, rfl, lk, hcd⟩ := F.ex
    exact fun s u => .of_eq rfl
  have TB__law_right : TabB base mg cl17 pl17 := hTB (cl17, pl17) (by simp)
  have N : ErrN mg ⟨e0, e1, e2, e3, e4, e5, e6, e7, e8, e9, e10⟩ ⟨v0, v1, v2⟩ := ⟨PySem.W.mg_of X G en0, PySem.W.mg_of X G en1, PySem.W.mg_of X G en2, PySem.W.mg_of X G en3, PySem.W.mg_of X G en4, PySem.W.mg_of X G en5, PySem.W.mg_of X G en6, PySem.W.mg_of X G en7, PySem.W.mg_of X G en8, PySem.W.mg_of X G en9, PySem.W.mg_of X G en10, PySem.W.mg_of X G ev0, PySem.W.mg_of X G ev1, PySem.W.mg_of X G ev2, PySem.W.mg_none_of X G ez0, PySem.W.mg_none_of X G ez1, PySem.W.mg_none_of X G ez2⟩
  have XK1 : ExcK K e1 := ⟨xic1, xga1, xgg1, xsb1, xca1, xcb, xcc, xcm1, xhd1⟩
  have XS1 : IsErr K ⟨e0, e1, e2, e3, e4, e5, e6, e7, e8, e9, e10⟩ ⟨v0, v1, v2⟩ e1 1 := ⟨by decide, fun j a h => (match j, a, h with | 0, _, h => by cases h; exact xk1_0 | 1, _, h => by cases h; exact xk1_1 | 2, _, h => by cases h; exact xk1_2 | 3, _, h => by cases h; exact xk1_3 | 4, _, h => by cases h; exact xk1_4 | 5, _, h => by cases h; exact xk1_5 | 6, _, h => by cases h; exact xk1_6 | 7, _, h => by cases h; exact xk1_7 | 8, _, h => by cases h; exact xk1_8 | 9, _, h => by cases h; exact xk1_9 | 10, _, h => by cases h; exact xk1_10), xv1_0, xv1_1, xv1_2, xp1_0, xp1_1, xp1_2⟩
  have EI_InvalidNumber : ErrI K ⟨e0, e1, e2, e3, e4, e5, e6, e7, e8, e9, e10⟩ ⟨v0, v1, v2⟩ e1 1 "number" := ⟨XK1, XS1, by decide, rfl, xno1, xan1⟩
  have XO1 : OexB K e1 := ⟨⟨_, _, _, _, PySem.F.excBase_ValueError, PySem.F.store_ValueError, xei1, xeo1⟩, xhd1, xsa1, xsb1, xty1, xkc1⟩
  have FX1 := fun_mk (st := s_InvalidNumber___init__) lX1 cX1 kX1
  have T_InvalidNumber : ErrB l.prog w K mg base "InvalidNumber" e1 "given" := ⟨XO1, xno1, PySem.W.mg_of X G en1, ⟨_, _, aX1, xti1, errB_init FX1 sc_InvalidNumber___init__ XO1 xno1 (fun cdv A outer s H E => pss_one (ps_ostB (pv 0) (pv 1))), FX1.binds (fun _ _ _ _ _ _ us hl => match us, hl with | [_, _], _ => rfl)⟩⟩
  have XK4 : ExcK K e4 := ⟨xic4, xga4, xgg4, xsb4, xca4, xcb, xcc, xcm4, xhd4⟩
  have XS4 : IsErr K ⟨e0, e1, e2, e3, e4, e5, e6, e7, e8, e9, e10⟩ ⟨v0, v1, v2⟩ e4 4 := ⟨by decide, fun j a h => (match j, a, h with | 0, _, h => by cases h; exact xk4_0 | 1, _, h => by cases h; exact xk4_1 | 2, _, h => by cases h; exact xk4_2 | 3, _, h => by cases h; exact xk4_3 | 4, _, h => by cases h; exact xk4_4 | 5, _, h => by cases h; exact xk4_5 | 6, _, h => by cases h; exact xk4_6 | 7, _, h => by cases h; exact xk4_7 | 8, _, h => by cases h; exact xk4_8 | 9, _, h => by cases h; exact xk4_9 | 10, _, h => by cases h; exact xk4_10), xv4_0, xv4_1, xv4_2, xp4_0, xp4_1, xp4_2⟩
  have EI_InvalidStanding : ErrI K ⟨e0, e1, e2, e3, e4, e5, e6, e7, e8, e9, e10⟩ ⟨v0, v1, v2⟩ e4 4 "standing" := ⟨XK4, XS4, by decide, rfl, xno4, xan4⟩
  have XO4 : OexB K e4 := ⟨⟨_, _, _, _, PySem.F.excBase_ValueError, PySem.F.store_ValueError, xei4, xeo4⟩, xhd4, xsa4, xsb4, xty4, xkc4⟩
  have FX4 := fun_mk (st := s_InvalidStanding___init__) lX4 cX4 kX4
  have T_InvalidStanding : ErrB l.prog w K mg base "InvalidStanding" e4 "given" := ⟨XO4, xno4, PySem.W.mg_of X G en4, ⟨_, _, aX4, xti4, errB_init FX4 sc_InvalidStanding___init__ XO4 xno4 (fun cdv A outer s H E => pss_one (ps_ostB (pv 0) (pv 1))), FX4.binds (fun _ _ _ _ _ _ us hl => match us, hl with | [_, _], _ => rfl)⟩⟩
  have XK5 : ExcK K e5 := ⟨xic5, xga5, xgg5, xsb5, xca5, xcb, xcc, xcm5, xhd5⟩
  have XS5 : IsErr K ⟨e0, e1, e2, e3, e4, e5, e6, e7, e8, e9, e10⟩ ⟨v0, v1, v2⟩ e5 5 := ⟨by decide, fun j a h => (match j, a, h with | 0, _, h => by cases h; exact xk5_0 | 1, _, h => by cases h; exact xk5_1 | 2, _, h => by cases h; exact xk5_2 | 3, _, h => by cases h; exact xk5_3 | 4, _, h => by cases h; exact xk5_4 | 5, _, h => by cases h; exact xk5_5 | 6, _, h => by cases h; exact xk5_6 | 7, _, h => by cases h; exact xk5_7 | 8, _, h => by cases h; exact xk5_8 | 9, _, h => by cases h; exact xk5_9 | 10, _, h => by cases h; exact xk5_10), xv5_0, xv5_1, xv5_2, xp5_0, xp5_1, xp5_2⟩
  have EI_NotALot : ErrI K ⟨e0, e1, e2, e3, e4, e5, e6, e7, e8, e9, e10⟩ ⟨v0, v1, v2⟩ e5 5 "lot" := ⟨XK5, XS5, by decide, rfl, xno5, xan5⟩
  have XO5 : OexB K e5 := ⟨⟨_, _, _, _, PySem.F.excBase_ValueError, PySem.F.store_ValueError, xei5, xeo5⟩, xhd5, xsa5, xsb5, xty5, xkc5⟩
  have FX5 := fun_mk (st := s_NotALot___init__) lX5 cX5 kX5
  have T_NotALot : ErrB l.prog w K mg base "NotALot" e5 "given" := ⟨XO5, xno5, PySem.W.mg_of X G en5, ⟨_, _, aX5, xti5, errB_init FX5 sc_NotALot___init__ XO5 xno5 (fun cdv A outer s H E => pss_one (ps_ostB (pv 0) (pv 1))), FX5.binds (fun _ _ _ _ _ _ us hl => match us, hl with | [_, _], _ => rfl)⟩⟩
  have XK9 : ExcK K e9 := ⟨xic9, xga9, xgg9, xsb9, xca9, xcb, xcc, xcm9, xhd9⟩
  have XS9 : IsErr K ⟨e0, e1, e2, e3, e4, e5, e6, e7, e8, e9, e10⟩ ⟨v0, v1, v2⟩ e9 9 := ⟨by decide, fun j a h => (match j, a, h with | 0, _, h => by cases h; exact xk9_0 | 1, _, h => by cases h; exact xk9_1 | 2, _, h => by cases h; exact xk9_2 | 3, _, h => by cases h; exact xk9_3 | 4, _, h => by cases h; exact xk9_4 | 5, _, h => by cases h; exact xk9_5 | 6, _, h => by cases h; exact xk9_6 | 7, _, h => by cases h; exact xk9_7 | 8, _, h => by cases h; exact xk9_8 | 9, _, h => by cases h; exact xk9_9 | 10, _, h => by cases h; exact xk9_10), xv9_0, xv9_1, xv9_2, xp9_0, xp9_1, xp9_2⟩
  have EI_TooMany : ErrI K ⟨e0, e1, e2, e3, e4, e5, e6, e7, e8, e9, e10⟩ ⟨v0, v1, v2⟩ e9 9 "many" := ⟨XK9, XS9, by decide, rfl, xno9, xan9⟩
  have XO9 : OexB K e9 := ⟨⟨_, _, _, _, PySem.F.excBase_ArithmeticError, PySem.F.store_ArithmeticError, xei9, xeo9⟩, xhd9, xsa9, xsb9, xty9, xkc9⟩
  have FX9 := fun_mk (st := s_TooMany___init__) lX9 cX9 kX9
  have T_TooMany : ErrB l.prog w K mg base "TooMany" e9 "limit" := ⟨XO9, xno9, PySem.W.mg_of X G en9, ⟨_, _, aX9, xti9, errB_init FX9 sc_TooMany___init__ XO9 xno9 (fun cdv A outer s H E => pss_one (ps_ostB (pv 0) (pv 1))), FX9.binds (fun _ _ _ _ _ _ us hl => match us, hl with | [_, _], _ => rfl)⟩⟩
  have p_text : PropH l.prog w K mg base C "text" "_text" := prop_mk F_text sc_Lot_text rfl T.cl T.n1 ⟨atPtext, gePtext, taPtext, ⟨_, rePtext_⟩⟩ (fun _ _ _ _ _ _ us hl => match us, hl with | [_], _ => rfl)
  have p_shares : PropH l.prog w K mg base C "shares" "_shares" := prop_mk F_shares sc_Lot_shares rfl T.cl T.n4 ⟨atPshares, gePshares, taPshares, ⟨_, rePshares_⟩⟩ (fun _ _ _ _ _ _ us hl => match us, hl with | [_], _ => rfl)
  have p_hands : PropH l.prog w K mg base C "hands" "_hands" := prop_mk F_hands sc_Lot_hands rfl T.cl T.n2 ⟨atPhands, gePhands, taPhands, ⟨_, rePhands_⟩⟩ (fun _ _ _ _ _ _ us hl => match us, hl with | [_], _ => rfl)
  have p_span : PropH l.prog w K mg base C "span" "_span" := prop_mk F_span sc_Lot_span rfl T.cl T.n5 ⟨atPspan, gePspan, taPspan, ⟨_, rePspan_⟩⟩ (fun _ _ _ _ _ _ us hl => match us, hl with | [_], _ => rfl)
  have FA : ∃ t, mg "FARTHEST" = some (.int (10 ^ 30) t) := ⟨_, by rw [show (10 : Int) ^ 30 = 1000000000000000000000000000000 by decide]; exact PySem.W.mg_of X G oFARTHEST⟩
  have MR : ∃ t, mg "MOST_ROUND" = some (.int 720 t) := ⟨_, PySem.W.mg_of X G oMOST_ROUND⟩
  have h_ladle := has_ladle (P := l.prog) (w := w) (base := base) D__law_ladle B.1
  have h_basin := has_basin (P := l.prog) (w := w) (base := base) D__law_basin B.1
  have h_lowest := has_lowest (P := l.prog) (w := w) (base := base) D__law_lowest B.1
  have h_part := has_part D__law_part B.1 h_ladle h_lowest
  have h_tags := has_tags D__law_tags B.1 h_ladle
  have h_jobs := has_jobs D__law_jobs B.1 h_ladle h_tags h_part
  have h_page := has_page (P := l.prog) (w := w) (base := base) D__law_page B.1
  have h_within := has_withinA (P := l.prog) (w := w) (base := base) D__law_within B.1
  have h_bases := has_bases (P := l.prog) (w := w) (base := base) D__law_bases B.1 N
  have h_class := has_class D__law_class B.1 N h_bases
  have h_same := has_same (P := l.prog) (w := w) (base := base) D__law_same B.1
  have h_numf := has_is_number_from (P := l.prog) (w := w) (base := base) D_is_number_from B.1
  have h_num := has_is_number D_is_number B.1 h_numf
  have h_numfA := has_is_number_fromA (P := l.prog) (w := w) (base := base) D_is_number_from B.1
  have h_numA := has_is_numberA D_is_number B.1 h_numfA
  have h_name := has_is_name (P := l.prog) (w := w) (base := base) D_is_name B.1 C2
  have h_share := has_is_share D_is_share B C2 h_num
  have h_rnum := has_read_number (P := l.prog) (w := w) (base := base) D__read_number B
  have h_rhands := has_read_hands D__read_hands B C2 h_rnum
  have h_rwork := has_read_work D__read_work B C2 h_rnum h_name h_share
  have h_rworks := has_read_works D__read_works B h_rwork
  have h_span := has_span_of (P := l.prog) (w := w) (base := base) D__span_of B
  have h_total := has_total_of (P := l.prog) (w := w) (base := base) D__total_of B
  have ok_i := ok_init (P := l.prog) (w := w) (base := base) FI T B C2 h_rhands h_rworks h_span h_total
  have hL : HasM l.prog w K mg base 6 C ["self", "text"] (spInit K C) := ⟨_, _, ⟨mk, aI, iI, kc⟩, ok_i, FI.binds (ps := ["self", "text"]) fun _ _ _ _ _ _ us hl => match us, hl with | [_, _], _ => rfl⟩
  have S_repr : HasS l.prog w K mg base 1 C "__repr__" ["self"] (spRepr K C) := ⟨_, _, aSrepr, iSrepr, ok_repr F_Srepr T B, F_Srepr.binds (ps := ["self"]) (fun _ _ _ _ _ _ us hl => match us, hl with | [_], _ => rfl)⟩
  have S_reprP : HasSP l.prog w K mg base 1 C "__repr__" ["self"] (spRepr K C) := ⟨_, _, aSrepr, iSrepr, okp_repr F_Srepr T B, F_Srepr.binds (ps := ["self"]) (fun _ _ _ _ _ _ us hl => match us, hl with | [_], _ => rfl)⟩
  have h_cnum := has_check_number D_check_number h_num
  have Z : LotNo K C := ⟨fun T9 h9 => by
    simp only [plainT, List.mem_cons, List.mem_nil_iff, or_false, List.not_mem_nil] at h9
    rcases h9 with rfl | rfl | rfl | rfl | rfl | rfl | rfl
    · exact no0
    · exact no1
    · exact no2
    · exact no3
    · exact no4
    · exact no5
    · exact no6⟩
  have h_cycle := has_cycle (P := l.prog) (w := w) (base := base) D__law_cycle B
  have x_clot := hx_check_lot D_check_lot B T I Z T_NotALot
  have x_cnum := hx_check_number D_check_number T_InvalidNumber h_numA
  have h_check := has_check_lot (P := l.prog) (w := w) (base := base) D_check_lot B T I
  have h_cmom := has_check_moment D_check_moment FA h_cnum
  have h_crnd := has_check_round D_check_round T MR p_span
  have h_qup := has_quotient_up (P := l.prog) (w := w) (base := base) D__quotient_up
  have h_turnsof := has_turns_of (K := K) D_turns_of h_qup
  have h_picks := has_all_picks (P := l.prog) (w := w) (base := base) D_all_picks
  have h_numat := has_numbers_at D__numbers_at T p_shares h_turnsof
  have h_stand : Has l.prog w K mg base 5 "standings" ["lot", "moment"] (spStandings K C) := D_standings.has (fun _ _ _ _ _ _ us hl => match us, hl with | [_, _], _ => rfl) fun f fd F => ok_standings F B h_check h_cmom h_crnd h_picks h_numat
  have h_crew := has_crew_of (P := l.prog) (w := w) (base := base) (K := K) D_crew_of B0
  have h_members := has_members_of (P := l.prog) (w := w) (base := base) (K := K) D_members_of B0
  have h_sizes := has_sizes_of (P := l.prog) (w := w) (base := base) (K := K) D_sizes_of_crews B0
  have h_parts := has_parts_of (P := l.prog) (w := w) (base := base) (K := K) D_parts_of_crews B0
  have h_grown := has_grown D__grown_between B0 h_crew
  have h_before := has_before (P := l.prog) (w := w) (base := base) (K := K) D__standings_before B0
  have h_living := has_living D__living_of B0 W h_before
  have hWalk : HasM l.prog w K mg base 3 CW ["self", "shares", "hands"] (spInitW K CW) := ⟨_, _, ⟨mkW, aWI, iWI, kcW⟩, ok_initW FWI B0 W h_sizes h_parts h_turnsof h_crew h_grown h_living, FWI.binds (ps := ["self", "shares", "hands"]) fun _ _ _ _ _ _ us hl => match us, hl with | [_, _, _], _ => rfl⟩
  have m_alive := hasD_mk (ps := ["self", "moment", "ahead"]) F_Wis_alive ⟨aWis_alive, iWis_alive, kWis_alive⟩ (ok_alive (P := l.prog) (w := w) (base := base) F_Wis_alive W) (fun _ _ _ _ _ _ us hl => match us, hl with | [_, _, _], _ => rfl)
  have m_crews := hasD_mk (ps := ["self", "moment", "ahead"]) F_Wcrews ⟨aWcrews, iWcrews, kWcrews⟩ (ok_crews (P := l.prog) (w := w) (base := base) F_Wcrews W) (fun _ _ _ _ _ _ us hl => match us, hl with | [_, _, _], _ => rfl)
  have m_choices := hasD_mk (ps := ["self", "moment", "ahead"]) F_Wchoices ⟨aWchoices, iWchoices, kWchoices⟩ (ok_choicesW F_Wchoices W m_crews) (fun _ _ _ _ _ _ us hl => match us, hl with | [_, _, _], _ => rfl)
  have h_round := has_round_of D_round_of T W p_shares p_hands p_span hWalk
  have h_ahead := has_ahead_in D_ahead_in B0 h_numat h_crew
  have h_cstand := has_check_standing D_check_standing B0 h_numat h_num
  have x_cmom := hx_check_moment D_check_moment FA x_cnum
  have x_crnd := hx_check_round D_check_round T MR p_span T_TooMany
  have x_cst := hx_check_standing D_check_standing B.1 h_numat h_numA T_InvalidStanding
  have x_stand : HasX l.prog w K mg base 5 "standings" ["lot", "moment"] (spTwoX K C e5 e1 e9 (spStandings K C)) := D_standings.hasX (fun _ _ _ _ _ _ us hl => match us, hl with | [_, _], _ => rfl) fun f fd F => okx_standings F (ok_standings F B h_check h_cmom h_crnd h_picks h_numat) x_clot x_cmom x_crnd
  have x_standq : HasQX l.prog w K mg base 5 "standings" ["lot", "moment"] ["moment", "lot"] back (spTwoX K C e5 e1 e9 (spStandings K C)) := D_standings.hasQX ["moment", "lot"] back vals_back (fun _ _ _ _ _ _ us hl => match us, hl with | [_, _], _ => rfl) fun f fd F => okx_standings F (ok_standings F B h_check h_cmom h_crnd h_picks h_numat) x_clot x_cmom x_crnd
  have x_alive : HasX l.prog w K mg base 6 "alive" ["lot", "moment"] (spTwoX K C e5 e1 e9 (spAliveL K C)) := D_alive.hasX (fun _ _ _ _ _ _ us hl => match us, hl with | [_, _], _ => rfl) fun f fd F => okx_alive F (ok_aliveL F B T W p_span h_stand h_round h_ahead m_alive) x_stand
  have x_aliveq : HasQX l.prog w K mg base 6 "alive" ["lot", "moment"] ["moment", "lot"] back (spTwoX K C e5 e1 e9 (spAliveL K C)) := D_alive.hasQX ["moment", "lot"] back vals_back (fun _ _ _ _ _ _ us hl => match us, hl with | [_, _], _ => rfl) fun f fd F => okx_alive F (ok_aliveL F B T W p_span h_stand h_round h_ahead m_alive) x_stand
  have x_cho : HasX l.prog w K mg base 6 "choices" ["lot", "moment", "standing"] (spChoicesX K C e5 e1 e4 e9 (spChoicesL K C)) := D_choices.hasX (fun _ _ _ _ _ _ us hl => match us, hl with | [_, _, _], _ => rfl) fun f fd F => okx_choices F (ok_choicesL F B T W p_span h_check h_cmom h_cstand h_crnd h_round h_ahead h_members m_choices) x_clot x_cmom x_cst x_crnd
  have x_choq : HasQX l.prog w K mg base 6 "choices" ["lot", "moment", "standing"] ["standing", "moment", "lot"] back (spChoicesX K C e5 e1 e4 e9 (spChoicesL K C)) := D_choices.hasQX ["standing", "moment", "lot"] back vals_back (fun _ _ _ _ _ _ us hl => match us, hl with | [_, _, _], _ => rfl) fun f fd F => okx_choices F (ok_choicesL F B T W p_span h_check h_cmom h_cstand h_crnd h_round h_ahead h_members m_choices) x_clot x_cmom x_cst x_crnd
  have h_no_lot := has_no_lot D__law_no_lot B.1 T p_text h_ladle
  have h_kept := has_kept (P := l.prog) (w := w) (K := K) (base := base) D__law_kept B
  have h_row := has_row D__law_row B.1 h_ladle h_kept
  have h_is_row := has_is_row D__law_is_row B.1 h_within h_kept
  have h_right := has_right D__law_right TB__law_right B T I Z N EI_InvalidNumber EI_InvalidStanding EI_NotALot EI_TooMany D__law_heard h_class (reprC_hot S_reprP) (reprC_cold S_repr) hL x_stand x_standq x_alive x_aliveq x_cho x_choq h_ladle h_no_lot h_cycle h_jobs h_page h_row h_is_row h_within h_same
  exact ok_lawT (k := 10) F B.1 h_basin h_right
theorem all_F {l : PySem.W.OpenLaw} {w : World} {K : PySem.W.Frag} {h : Heap} {mg : Str → Option Value} {fa : Addr} (X : K.In h) (G : h.Ns mainGlobals mg) (hfa : mg "law" = some (.ref fa)) (c : SaysF fnF tfF exF h K)
    : ∃ (fd : FuncData) (cs : List (Addr × Addr)) (T : List (Addr × Str)), (∀ p ∈ cs, PySem.W.codeHdIn K p.1 p.2 = true) ∧ (∀ p ∈ cs, K.lookup p.2 = none) ∧ (∀ p ∈ cs, h.get? p.2 = some { cls := .none, data := .fields #[] }) ∧ (∀ p ∈ T, ∃ c, (c, p.1) ∈ cs) ∧ (∀ (s : Shared) (u : Value), BindsTo s fd ⟨[u], []⟩ [("_law_script", u)]) ∧ ∀ base : Heap, (∀ p ∈ cs, TabB base mg p.1 p.2) → FnG l.prog w K mg base 12 fa fd ["_law_script"] (spLawT K T) := by
  have m : exF K = true := c.more
  unfold exF at m
  obtain ⟨m0, m⟩ := He.ba m
  obtain ⟨a0, k0, a1, k1, a2, k2, a3, k3, a4, k4, a5, k5⟩ := of_decide_eq_true m0
  obtain ⟨m1, m⟩ := He.ba m
  obtain ⟨a6, k6, a7, k7, a8, k8, a9, k9, a10, k10, a11, k11⟩ := of_decide_eq_true m1
  obtain ⟨m2, m⟩ := He.ba m
  obtain ⟨a12, k12, a13, k13, a14, k14, a15, k15, a16, k16, a17, k17⟩ := of_decide_eq_true m2
  obtain ⟨m3, m⟩ := He.ba m
  obtain ⟨a18, k18, a19, k19, a20, k20, a21, k21, a22, k22, a23, k23⟩ := of_decide_eq_true m3
  obtain ⟨m4, m⟩ := He.ba m
  obtain ⟨a24, k24, a25, k25, a26, k26, a27, k27, a28, k28, a29, k29⟩ := of_decide_eq_true m4
  obtain ⟨m5, m⟩ := He.ba m
  obtain ⟨a30, k30, a31, k31, a32, k32, a33, k33, a34, k34, a35, k35⟩ := of_decide_eq_true m5
  obtain ⟨m6, m⟩ := He.ba m
  obtain ⟨a36, k36, a37, k37, a38, k38, a39, k39, a40, k40, a41, k41⟩ := of_decide_eq_true m6
  obtain ⟨m7, m⟩ := He.ba m
  obtain ⟨a42, k42, a43, k43, a44, k44, a45, k45, a46, k46, a47, k47⟩ := of_decide_eq_true m7
  obtain ⟨m8, m⟩ := He.ba m
  obtain ⟨a48, k48, a49, k49, aC, aI, kI, iI, pg, hd, po, sa⟩ := of_decide_eq_true m8
  obtain ⟨m9, m⟩ := He.ba m
  obtain ⟨mk, kc, ca, cb, cc, cm, n0, n1, n2, n3, n4, n5⟩ := of_decide_eq_true m9
  obtain ⟨m10, m⟩ := He.ba m
  obtain ⟨atPtext, rePtext_, gePtext, taPtext, kPtext, atPshares, rePshares_, gePshares, taPshares, kPshares, atPhands, rePhands_⟩ := of_decide_eq_true m10
  obtain ⟨m11, m⟩ := He.ba m
  obtain ⟨gePhands, taPhands, kPhands, atPspan, rePspan_, gePspan, taPspan, kPspan, aSrepr, kSrepr, iSrepr, aCW⟩ := of_decide_eq_true m11
  obtain ⟨m12, m⟩ := He.ba m
  obtain ⟨aWI, kWI, iWI, pgW, hdW, poW, saW, mkW, kcW, nW0, nW1, nW2⟩ := of_decide_eq_true m12
  obtain ⟨m13, m⟩ := He.ba m
  obtain ⟨nW3, nW4, nW5, nW6, nW7, aWis_alive, kWis_alive, iWis_alive, aWcrews, kWcrews, iWcrews, aWchoices⟩ := of_decide_eq_true m13
  obtain ⟨m14, m⟩ := He.ba m
  obtain ⟨kWchoices, iWchoices, no0, no1, no2, no3, no4, no5, no6, en0, en1, en2⟩ := of_decide_eq_true m14
  obtain ⟨m15, m⟩ := He.ba m
  obtain ⟨en3, en4, en5, en6, en7, en8, en9, en10, ev0, ev1, ev2, ez0⟩ := of_decide_eq_true m15
  obtain ⟨m16, m⟩ := He.ba m
  obtain ⟨ez1, ez2, xcb, xcc, xei1, xeo1, xsa1, xga1, xgg1, xca1, xno1, xsb1⟩ := of_decide_eq_true m16
  obtain ⟨m17, m⟩ := He.ba m
  obtain ⟨xty1, xkc1, xic1, xcm1, xhd1, aX1, kX1, xti1, xk1_0, xk1_1, xk1_2, xk1_3⟩ := of_decide_eq_true m17
  obtain ⟨m18, m⟩ := He.ba m
  obtain ⟨xk1_4, xk1_5, xk1_6, xk1_7, xk1_8, xk1_9, xk1_10, xv1_0, xv1_1, xv1_2, xp1_0, xp1_1⟩ := of_decide_eq_true m18
  obtain ⟨m19, m⟩ := He.ba m
  obtain ⟨xp1_2, xan1, xei4, xeo4, xsa4, xga4, xgg4, xca4, xno4, xsb4, xty4, xkc4⟩ := of_decide_eq_true m19
  obtain ⟨m20, m⟩ := He.ba m
  obtain ⟨xic4, xcm4, xhd4, aX4, kX4, xti4, xk4_0, xk4_1, xk4_2, xk4_3, xk4_4, xk4_5⟩ := of_decide_eq_true m20
  obtain ⟨m21, m⟩ := He.ba m
  obtain ⟨xk4_6, xk4_7, xk4_8, xk4_9, xk4_10, xv4_0, xv4_1, xv4_2, xp4_0, xp4_1, xp4_2, xan4⟩ := of_decide_eq_true m21
  obtain ⟨m22, m⟩ := He.ba m
  obtain ⟨xei5, xeo5, xsa5, xga5, xgg5, xca5, xno5, xsb5, xty5, xkc5, xic5, xcm5⟩ := of_decide_eq_true m22
  obtain ⟨m23, m⟩ := He.ba m
  obtain ⟨xhd5, aX5, kX5, xti5, xk5_0, xk5_1, xk5_2, xk5_3, xk5_4, xk5_5, xk5_6, xk5_7⟩ := of_decide_eq_true m23
  obtain ⟨m24, m⟩ := He.ba m
  obtain ⟨xk5_8, xk5_9, xk5_10, xv5_0, xv5_1, xv5_2, xp5_0, xp5_1, xp5_2, xan5, xei9, xeo9⟩ := of_decide_eq_true m24
  obtain ⟨m25, m⟩ := He.ba m
  obtain ⟨xsa9, xga9, xgg9, xca9, xno9, xsb9, xty9, xkc9, xic9, xcm9, xhd9, aX9⟩ := of_decide_eq_true m25
  obtain ⟨m26, m⟩ := He.ba m
  obtain ⟨kX9, xti9, xk9_0, xk9_1, xk9_2, xk9_3, xk9_4, xk9_5, xk9_6, xk9_7, xk9_8, xk9_9⟩ := of_decide_eq_true m26
  obtain ⟨m27, m⟩ := He.ba m
  obtain ⟨xk9_10, xv9_0, xv9_1, xv9_2, xp9_0, xp9_1, xp9_2, xan9, o0, o1, o2, o3⟩ := of_decide_eq_true m27
  obtain ⟨m28, m⟩ := He.ba m
  obtain ⟨o4, oFARTHEST, oMOST_ROUND, zlen, zrange, zabs, zdivmod, zint, zstr, zbool, zrepr, zisinstance⟩ := of_decide_eq_true m28
  obtain ⟨m29, m⟩ := He.ba m
  obtain ⟨ztuple, zlist, zdict, zzip, zsum, zall, zmax, zmin, zsorted, zset, zenumerate, g_gcd⟩ := of_decide_eq_true m29
  have m30 := m
  have g_lcm := of_decide_eq_true m30
  obtain ⟨oc0, od0, sl0, kV0, dc0, pm0, an0, cd0, ct0, l0, c0⟩ := c.def_ 0
  obtain ⟨oc1, od1, sl1, kV1, dc1, pm1, an1, cd1, ct1, l1, c1⟩ := c.def_ 1
  obtain ⟨oc2, od2, sl2, kV2, dc2, pm2, an2, cd2, ct2, l2, c2⟩ := c.def_ 2
  obtain ⟨oc3, od3, sl3, kV3, dc3, pm3, an3, cd3, ct3, l3, c3⟩ := c.def_ 3
  obtain ⟨oc4, od4, sl4, kV4, dc4, pm4, an4, cd4, ct4, l4, c4⟩ := c.def_ 4
  obtain ⟨oc5, od5, sl5, kV5, dc5, pm5, an5, cd5, ct5, l5, c5⟩ := c.def_ 5
  obtain ⟨oc6, od6, sl6, kV6, dc6, pm6, an6, cd6, ct6, l6, c6⟩ := c.def_ 6
  obtain ⟨oc7, od7, sl7, kV7, dc7, pm7, an7, cd7, ct7, l7, c7⟩ := c.def_ 7
  obtain ⟨oc8, od8, sl8, kV8, dc8, pm8, an8, cd8, ct8, l8, c8⟩ := c.def_ 8
  obtain ⟨oc9, od9, sl9, kV9, dc9, pm9, an9, cd9, ct9, l9, c9⟩ := c.def_ 9
  obtain ⟨oc10, od10, sl10, kV10, dc10, pm10, an10, cd10, ct10, l10, c10⟩ := c.def_ 10
  obtain ⟨oc11, od11, sl11, kV11, dc11, pm11, an11, cd11, ct11, l11, c11⟩ := c.def_ 11
  obtain ⟨oc12, od12, sl12, kV12, dc12, pm12, an12, cd12, ct12, l12, c12⟩ := c.def_ 12
  obtain ⟨oc13, od13, sl13, kV13, dc13, pm13, an13, cd13, ct13, l13, c13⟩ := c.def_ 13
  obtain ⟨oc14, od14, sl14, kV14, dc14, pm14, an14, cd14, ct14, l14, c14⟩ := c.def_ 14
  obtain ⟨oc15, od15, sl15, kV15, dc15, pm15, an15, cd15, ct15, l15, c15⟩ := c.def_ 15
  obtain ⟨oc16, od16, sl16, kV16, dc16, pm16, an16, cd16, ct16, l16, c16⟩ := c.def_ 16
  obtain ⟨oc17, od17, sl17, kV17, dc17, pm17, an17, cd17, ct17, l17, c17⟩ := c.def_ 17
  obtain ⟨oc18, od18, sl18, kV18, dc18, pm18, an18, cd18, ct18, l18, c18⟩ := c.def_ 18
  obtain ⟨oc19, od19, sl19, kV19, dc19, pm19, an19, cd19, ct19, l19, c19⟩ := c.def_ 19
  obtain ⟨oc20, od20, sl20, kV20, dc20, pm20, an20, cd20, ct20, l20, c20⟩ := c.def_ 20
  obtain ⟨oc21, od21, sl21, kV21, dc21, pm21, an21, cd21, ct21, l21, c21⟩ := c.def_ 21
  obtain ⟨oc22, od22, sl22, kV22, dc22, pm22, an22, cd22, ct22, l22, c22⟩ := c.def_ 22
  obtain ⟨oc23, od23, sl23, kV23, dc23, pm23, an23, cd23, ct23, l23, c23⟩ := c.def_ 23
  obtain ⟨oc24, od24, sl24, kV24, dc24, pm24, an24, cd24, ct24, l24, c24⟩ := c.def_ 24
  obtain ⟨oc25, od25, sl25, kV25, dc25, pm25, an25, cd25, ct25, l25, c25⟩ := c.def_ 25
  obtain ⟨oc26, od26, sl26, kV26, dc26, pm26, an26, cd26, ct26, l26, c26⟩ := c.def_ 26
  obtain ⟨oc27, od27, sl27, kV27, dc27, pm27, an27, cd27, ct27, l27, c27⟩ := c.def_ 27
  obtain ⟨oc28, od28, sl28, kV28, dc28, pm28, an28, cd28, ct28, l28, c28⟩ := c.def_ 28
  obtain ⟨oc29, od29, sl29, kV29, dc29, pm29, an29, cd29, ct29, l29, c29⟩ := c.def_ 29
  obtain ⟨oc30, od30, sl30, kV30, dc30, pm30, an30, cd30, ct30, l30, c30⟩ := c.def_ 30
  obtain ⟨oc31, od31, sl31, kV31, dc31, pm31, an31, cd31, ct31, l31, c31⟩ := c.def_ 31
  obtain ⟨oc32, od32, sl32, kV32, dc32, pm32, an32, cd32, ct32, l32, c32⟩ := c.def_ 32
  obtain ⟨oc33, od33, sl33, kV33, dc33, pm33, an33, cd33, ct33, l33, c33⟩ := c.def_ 33
  obtain ⟨oc34, od34, sl34, kV34, dc34, pm34, an34, cd34, ct34, l34, c34⟩ := c.def_ 34
  obtain ⟨oc35, od35, sl35, kV35, dc35, pm35, an35, cd35, ct35, l35, c35⟩ := c.def_ 35
  obtain ⟨oc36, od36, sl36, kV36, dc36, pm36, an36, cd36, ct36, l36, c36⟩ := c.def_ 36
  obtain ⟨oc37, od37, sl37, kV37, dc37, pm37, an37, cd37, ct37, l37, c37⟩ := c.def_ 37
  obtain ⟨oc38, od38, sl38, kV38, dc38, pm38, an38, cd38, ct38, l38, c38⟩ := c.def_ 38
  obtain ⟨oc39, od39, sl39, kV39, dc39, pm39, an39, cd39, ct39, l39, c39⟩ := c.def_ 39
  obtain ⟨oc40, od40, sl40, kV40, dc40, pm40, an40, cd40, ct40, l40, c40⟩ := c.def_ 40
  obtain ⟨oc41, od41, sl41, kV41, dc41, pm41, an41, cd41, ct41, l41, c41⟩ := c.def_ 41
  obtain ⟨oc42, od42, sl42, kV42, dc42, pm42, an42, cd42, ct42, l42, c42⟩ := c.def_ 42
  obtain ⟨oc43, od43, sl43, kV43, dc43, pm43, an43, cd43, ct43, l43, c43⟩ := c.def_ 43
  obtain ⟨oc44, od44, sl44, kV44, dc44, pm44, an44, cd44, ct44, l44, c44⟩ := c.def_ 44
  obtain ⟨oc45, od45, sl45, kV45, dc45, pm45, an45, cd45, ct45, l45, c45⟩ := c.def_ 45
  obtain ⟨oc46, od46, sl46, kV46, dc46, pm46, an46, cd46, ct46, l46, c46⟩ := c.def_ 46
  obtain ⟨oc47, od47, sl47, kV47, dc47, pm47, an47, cd47, ct47, l47, c47⟩ := c.def_ 47
  obtain ⟨oc48, od48, sl48, kV48, dc48, pm48, an48, cd48, ct48, l48, c48⟩ := c.def_ 48
  obtain ⟨oc49, od49, sl49, kV49, dc49, pm49, an49, cd49, ct49, l49, c49⟩ := c.def_ 49
  obtain ⟨ocI, odI, slI, kVI, dcI, pmI, anI, cdI, ctI, lI, cI⟩ := c.def_ 50
  obtain ⟨ocPtext, odPtext, slPtext, kVPtext, dcPtext, pmPtext, anPtext, cdPtext, ctPtext, lPtext, cPtext⟩ := c.def_ 51
  obtain ⟨ocPshares, odPshares, slPshares, kVPshares, dcPshares, pmPshares, anPshares, cdPshares, ctPshares, lPshares, cPshares⟩ := c.def_ 52
  obtain ⟨ocPhands, odPhands, slPhands, kVPhands, dcPhands, pmPhands, anPhands, cdPhands, ctPhands, lPhands, cPhands⟩ := c.def_ 53
  obtain ⟨ocPspan, odPspan, slPspan, kVPspan, dcPspan, pmPspan, anPspan, cdPspan, ctPspan, lPspan, cPspan⟩ := c.def_ 54
  obtain ⟨ocSrepr, odSrepr, slSrepr, kVSrepr, dcSrepr, pmSrepr, anSrepr, cdSrepr, ctSrepr, lSrepr, cSrepr⟩ := c.def_ 55
  obtain ⟨ocWI, odWI, slWI, kVWI, dcWI, pmWI, anWI, cdWI, ctWI, lWI, cWI⟩ := c.def_ 56
  obtain ⟨ocWis_alive, odWis_alive, slWis_alive, kVWis_alive, dcWis_alive, pmWis_alive, anWis_alive, cdWis_alive, ctWis_alive, lWis_alive, cWis_alive⟩ := c.def_ 57
  obtain ⟨ocWcrews, odWcrews, slWcrews, kVWcrews, dcWcrews, pmWcrews, anWcrews, cdWcrews, ctWcrews, lWcrews, cWcrews⟩ := c.def_ 58
  obtain ⟨ocWchoices, odWchoices, slWchoices, kVWchoices, dcWchoices, pmWchoices, anWchoices, cdWchoices, ctWchoices, lWchoices, cWchoices⟩ := c.def_ 59
  obtain ⟨ocX1, odX1, slX1, kVX1, dcX1, pmX1, anX1, cdX1, ctX1, lX1, cX1⟩ := c.def_ 60
  obtain ⟨ocX4, odX4, slX4, kVX4, dcX4, pmX4, anX4, cdX4, ctX4, lX4, cX4⟩ := c.def_ 61
  obtain ⟨ocX5, odX5, slX5, kVX5, dcX5, pmX5, anX5, cdX5, ctX5, lX5, cX5⟩ := c.def_ 62
  obtain ⟨ocX9, odX9, slX9, kVX9, dcX9, pmX9, anX9, cdX9, ctX9, lX9, cX9⟩ := c.def_ 63
  -- the code objects of the defs that make lambdas
  have zz17 := codeAd_ok l17 rfl c17
  obtain rfl : cd17 = .ref (codeAd K (He.ga K "_law_right")) := zz17
  obtain ⟨fd, hT, bind, hF⟩ := all_mk (l := l) (w := w) (pl17 := tabAd K (codeAd K (He.ga K "_law_right"))) X G hfa a0 l0 c0 k0 a1 l1 c1 k1 a2 l2 c2 k2 a3 l3 c3 k3 a4 l4 c4 k4 a5 l5 c5 k5 a6 l6 c6 k6 a7 l7 c7 k7 a8 l8 c8 k8 a9 l9 c9 k9 a10 l10 c10 k10 a11 l11 c11 k11 a12 l12 c12 k12 a13 l13 c13 k13 a14 l14 c14 k14 a15 l15 c15 k15 a16 l16 c16 k16 a17 l17 c17 k17 a18 l18 c18 k18 a19 l19 c19 k19 a20 l20 c20 k20 a21 l21 c21 k21 a22 l22 c22 k22 a23 l23 c23 k23 a24 l24 c24 k24 a25 l25 c25 k25 a26 l26 c26 k26 a27 l27 c27 k27 a28 l28 c28 k28 a29 l29 c29 k29 a30 l30 c30 k30 a31 l31 c31 k31 a32 l32 c32 k32 a33 l33 c33 k33 a34 l34 c34 k34 a35 l35 c35 k35 a36 l36 c36 k36 a37 l37 c37 k37 a38 l38 c38 k38 a39 l39 c39 k39 a40 l40 c40 k40 a41 l41 c41 k41 a42 l42 c42 k42 a43 l43 c43 k43 a44 l44 c44 k44 a45 l45 c45 k45 a46 l46 c46 k46 a47 l47 c47 k47 a48 l48 c48 k48 a49 l49 c49 k49 aC aI lI cI kI iI pg hd po sa mk kc ca cb cc cm n0 n1 n2 n3 n4 n5 atPtext rePtext_ gePtext taPtext lPtext cPtext kPtext atPshares rePshares_ gePshares taPshares lPshares cPshares kPshares atPhands rePhands_ gePhands taPhands lPhands cPhands kPhands atPspan rePspan_ gePspan taPspan lPspan cPspan kPspan aSrepr lSrepr cSrepr kSrepr iSrepr aCW aWI lWI cWI kWI iWI pgW hdW poW saW mkW kcW nW0 nW1 nW2 nW3 nW4 nW5 nW6 nW7 aWis_alive lWis_alive cWis_alive kWis_alive iWis_alive aWcrews lWcrews cWcrews kWcrews iWcrews aWchoices lWchoices cWchoices kWchoices iWchoices no0 no1 no2 no3 no4 no5 no6 en0 en1 en2 en3 en4 en5 en6 en7 en8 en9 en10 ev0 ev1 ev2 ez0 ez1 ez2 xcb xcc xei1 xeo1 xsa1 xga1 xgg1 xca1 xno1 xsb1 xty1 xkc1 xic1 xcm1 xhd1 aX1 lX1 cX1 kX1 xti1 xk1_0 xk1_1 xk1_2 xk1_3 xk1_4 xk1_5 xk1_6 xk1_7 xk1_8 xk1_9 xk1_10 xv1_0 xv1_1 xv1_2 xp1_0 xp1_1 xp1_2 xan1 xei4 xeo4 xsa4 xga4 xgg4 xca4 xno4 xsb4 xty4 xkc4 xic4 xcm4 xhd4 aX4 lX4 cX4 kX4 xti4 xk4_0 xk4_1 xk4_2 xk4_3 xk4_4 xk4_5 xk4_6 xk4_7 xk4_8 xk4_9 xk4_10 xv4_0 xv4_1 xv4_2 xp4_0 xp4_1 xp4_2 xan4 xei5 xeo5 xsa5 xga5 xgg5 xca5 xno5 xsb5 xty5 xkc5 xic5 xcm5 xhd5 aX5 lX5 cX5 kX5 xti5 xk5_0 xk5_1 xk5_2 xk5_3 xk5_4 xk5_5 xk5_6 xk5_7 xk5_8 xk5_9 xk5_10 xv5_0 xv5_1 xv5_2 xp5_0 xp5_1 xp5_2 xan5 xei9 xeo9 xsa9 xga9 xgg9 xca9 xno9 xsb9 xty9 xkc9 xic9 xcm9 xhd9 aX9 lX9 cX9 kX9 xti9 xk9_0 xk9_1 xk9_2 xk9_3 xk9_4 xk9_5 xk9_6 xk9_7 xk9_8 xk9_9 xk9_10 xv9_0 xv9_1 xv9_2 xp9_0 xp9_1 xp9_2 xan9 o0 o1 o2 o3 o4 oFARTHEST oMOST_ROUND zlen zrange zabs zdivmod zint zstr zbool zrepr zisinstance ztuple zlist zdict zzip zsum zall zmax zmin zsorted zset zenumerate g_gcd g_lcm
  refine ⟨fd, [(codeAd K (He.ga K "_law_right"), tabAd K (codeAd K (He.ga K "_law_right")))], _, ?_, ?_, ?_, hT, bind, hF⟩
  · intro p hp
    simp only [List.mem_cons, List.mem_nil_iff, or_false, List.not_mem_nil] at hp
    rcases hp with rfl
    · exact c.heads _ (List.mem_of_getElem? (i := 0) rfl)
  · intro p hp
    simp only [List.mem_cons, List.mem_nil_iff, or_false, List.not_mem_nil] at hp
    rcases hp with rfl
    · exact c.outs _ (List.mem_of_getElem? (i := 0) rfl)
  · intro p hp
    simp only [List.mem_cons, List.mem_nil_iff, or_false, List.not_mem_nil] at hp
    rcases hp with rfl
    · exact c.empties _ (List.mem_of_getElem? (i := 0) rfl)
end Ts
open PySem PySem.W PyProof.Rows
set_option maxRecDepth 100000 in
set_option maxHeartbeats 0 in
theorem PySem.Challenge.cw_tickshares_k17_errors_of_standings_in_or_holds : PySem.Challenge.rw_tickshares_k17_errors_of_standings_in_or.Holds := by
  w_on; o_law
  refine HandSHeadRun.head_imp (r := Ts.rwF) (q := Ts.vwF) (H := Ts.hookF Ts.asF Ts.fnF Ts.tfF Ts.exF) (M := 20000) (loose := Ts.nmF) (d := HandSHeadRun.topDef Ts.rwF.prog 84) (kwd := []) Ts.viewF_eq Ts.runF
    (by kernel_rfl) (by kernel_rfl) (by kernel_rfl) (by rfl) (by first | assumption | decide +kernel) (by decide +kernel) ⟨rfl, rfl, rfl, rfl, rfl, by decide +kernel⟩ ?hw ?hc
  case hw => w_witness2
  case hc =>
    refine Ts.walk_GFT (l := PySem.Challenge.rw_tickshares_k17_errors_of_standings_in_or) (k := 12) (x := "_law_script") rfl (by kernel_rfl) ⟨rfl, by decide, by decide⟩ ?F
    intro w mg fa h Y G hmg
    obtain ⟨K, KX, c⟩ := Y
    have hm : mg ("law" : Str) = some (.ref fa) := by
      have e : (HandSHeadRun.topDef Ts.rwF.prog 84).name = ("law" : Str) := by kernel_rfl
      rw [← e]; exact hmg
    obtain ⟨fd, cs, T, h1, h2, h3, h4, hb, hF⟩ := Ts.all_F KX G hm c
    exact ⟨K, fd, cs, T, KX, h1, h2, h3, h4, hb, hF⟩
