import PyProof.Rows.All
import Wide.All
import OpenK.AllK
import Wide.FinOn
import PyProof.ReprRoads
import KE.KMathG
import HandS.ForMost
import HandS.IsInst
import HandS.FStr
import HandS.Property
import HandS.Gcd
import HandS.NoneIn
import HandS.Style
import HandS.Flow
import HandS.Wide
import HandS.Conv
import HandS.Walk
import HandS.RaiseMore
import KE.KUnpackStar
import KE.KDictSum
import HandS.Sort
import HandS.MakeKwOnly
import HandS.Strs
import HandS.Ends
import HandS.SlotsOwn
import HandS.More
import PyProof.InstNe
import HandS.Small
import PyProof.ReprLen
import KE.KDictZip
import HandS.Zip
import HandS.Star
import HandS.Codes
import HandS.TupSets
import HandS.SortRule
import HandS.NamedTupSort
import PyProof.LongRange
import PyProof.ListRange
import HandS.WideBits
import HandS.Lambda
import HandS.TryMany
import HandS.HotCalls
import HandS.ExcInit
import HandS.ExcIs
import HandS.ExcInitHot
import KE.KExcIs
import HandS.WordsExc
import HandS.EndTab
import HandS.TupMul
import KE.GoesEnum
import HandS.Iter
import HandS.TryOnly
import KE.KDictItemsList
import KE.GoesNew
import KE.GoesMore
import KE.LtSeq
import KE.LtData
import KE.KExcInit
import PyProof.ExcBaseAll.LookupError
import PyProof.ExcBaseAll.ArithmeticError
import HandS.CallLocal
import KE.KTupSum
import HandS.TupLe
import HandS.HeadHook3
import PyProof.ListIndex
import KE.KDictPairs
import KE.KEqDict
import HandS.Deep
import KE.SortData
import KE.DataCmp
import PyProof.NeKinds
import HandS.Head0
import HandS.Head1
import HandS.Head2
import HandS.Head3
import HandS.HeadHook1
import HandS.HeadHook2
import HandS.HeadHook4
import HandS.SortInts
import PySem.Challenge.RW_tickshares_k29_whole_bent_tables_judged
set_option Elab.async false
set_option linter.all false
set_option maxHeartbeats 4000000
set_option maxRecDepth 100000
namespace Ts
open PySem PySem.Spec PyProof.Rows L2
def top (i : Nat) : Stmt := PySem.Challenge.pw_tickshares_k29_whole_bent_tables_judged.main.body.getD i (.Pass ⟨0, 0, 0, 0⟩)
end Ts
namespace Ts
open PySem PySem.Spec PyProof.Rows L2
/-! ## heaps -/
theorem same_new {H : Hp} {p : Addr} {o : HO} (h : H p = none) : Same H (upd H p o) := fun b x e => by
  rw [upd_ne (ne_of_none e h)]; exact e
/-- all but what stands at b is as it was -/
def But (b : Addr) (H H' : Hp) : Prop := ∀ a o, a ≠ b → H a = some o → H' a = some o
def hid (b : Addr) (H : Hp) : Hp := fun a => if a = b then none else H a
theorem hid_ne {b a : Addr} {H : Hp} (h : a ≠ b) : hid b H a = H a := if_neg h
theorem hid_some {b a : Addr} {H : Hp} {o : HO} (h : hid b H a = some o) : a ≠ b ∧ H a = some o := by
  unfold hid at h
  split at h
  · cases h
  · exact ⟨by assumption, h⟩
theorem hid_sub {b : Addr} {H : Hp} : Same (hid b H) H := fun a o h => (hid_some h).2
theorem But.refl {b : Addr} {H : Hp} : But b H H := fun _ _ _ h => h
theorem But.trans {b : Addr} {H H1 H2 : Hp} (x : But b H H1) (y : But b H1 H2) : But b H H2 := fun a o n h => y a o n (x a o n h)
theorem But.hid {b : Addr} {H H' : Hp} (x : But b H H') : Same (hid b H) (hid b H') := fun a o h => by
  obtain ⟨n, e⟩ := hid_some h
  rw [hid_ne n]; exact x a o n e
theorem But.of {b : Addr} {H H' : Hp} (x : Same (Ts.hid b H) (Ts.hid b H')) : But b H H' := fun a o n h => (hid_some (x a o (by rw [hid_ne n]; exact h))).2
theorem But.of_same {b : Addr} {H H' : Hp} (x : Same H H') : But b H H' := fun a o _ h => x a o h
theorem But.set {b : Addr} {H : Hp} {o : HO} : But b H (upd H b o) := fun a u n h => by rw [upd_ne n]; exact h
/-- a fresh address of a heap that has b -/
theorem But.free {b p : Addr} {H H' : Hp} (x : But b H H') (hb : b ≠ p) (h : H' p = none) : H p = none := by
  cases e : H p with
  | none => rfl
  | some o => rw [x p o (Ne.symm hb) e] at h; cases h
end Ts
namespace L2
open PySem PySem.Spec PyProof.Rows
/-! ## data that is read -/
mutual
theorem Dp.mono {K : PySem.W.Frag} {H H' : Hp} (s : Same H H') : ∀ {v : V} {d : PyData}, Dp K H v d → Dp K H' v d
  | _, _, .non => .non
  | _, _, .bl b => .bl b
  | _, _, .int i => .int i
  | _, _, .str x => .str x
  | _, _, .lst h a => .lst (s.seq h) (DpAll.mono s a)
  | _, _, .tup h a => .tup (by
      rcases h with (h | ⟨o, h⟩) | h
      · exact .inl (.inl (s _ _ h))
      · exact .inl (.inr ⟨o, s _ _ h⟩)
      · exact .inr h) (DpAll.mono s a)
theorem DpAll.mono {K : PySem.W.Frag} {H H' : Hp} (s : Same H H') : ∀ {vs : List V} {ds : List PyData}, DpAll K H vs ds → DpAll K H' vs ds
  | _, _, .nil => .nil
  | _, _, .cons h a => .cons (Dp.mono s h) (DpAll.mono s a)
end
theorem sameT {K : PySem.W.Frag} {H H' : Hp} (s : Same H H') {a : Addr} {xs : List V} (h : SqT K H a xs) : SqT K H' a xs := by
  rcases h with (h | ⟨o, h⟩) | h
  · exact .inl (.inl (s _ _ h))
  · exact .inl (.inr ⟨o, s _ _ h⟩)
  · exact .inr h
theorem DpAll.length {K : PySem.W.Frag} {H : Hp} : ∀ {vs : List V} {ds : List PyData}, DpAll K H vs ds → vs.length = ds.length
  | _, _, .nil => rfl
  | _, _, .cons _ a => congrArg (· + 1) (DpAll.length a)
theorem DpAll.get {K : PySem.W.Frag} {H : Hp} : ∀ {vs : List V} {ds : List PyData}, DpAll K H vs ds → ∀ {i : Nat} {v : V}, vs[i]? = some v → ∃ d, ds[i]? = some d ∧ Dp K H v d
  | _, _, .cons h a, 0, v, e => by
    have e' : _ = v := Option.some.inj e
    subst e'; exact ⟨_, rfl, h⟩
  | _, _, .cons h a, i + 1, v, e => DpAll.get (i := i) a e
theorem DpAll.append {K : PySem.W.Frag} {H : Hp} : ∀ {vs ws : List V} {ds es : List PyData}, DpAll K H vs ds → DpAll K H ws es → DpAll K H (vs ++ ws) (ds ++ es)
  | _, _, _, _, .nil, b => b
  | _, _, _, _, .cons h a, b => .cons h (DpAll.append a b)
theorem Dp.list {K : PySem.W.Frag} {H : Hp} {v : V} {ds : List PyData} (h : Dp K H v (.list ds)) : ∃ a xs, v = .ref a ∧ SqL K H a xs ∧ DpAll K H xs ds := by
  cases h with
  | lst h a => exact ⟨_, _, rfl, h, a⟩
theorem Dp.tuple {K : PySem.W.Frag} {H : Hp} {v : V} {ds : List PyData} (h : Dp K H v (.tuple ds)) : ∃ a xs, v = .ref a ∧ SqT K H a xs ∧ DpAll K H xs ds := by
  cases h with
  | tup h a => exact ⟨_, _, rfl, h, a⟩
theorem Dp.int_eq {K : PySem.W.Frag} {H : Hp} {v : V} {i : Int} (h : Dp K H v (.int i)) : v = .int i := by cases h; rfl
theorem Dp.str_eq {K : PySem.W.Frag} {H : Hp} {v : V} {x : Str} (h : Dp K H v (.str x)) : v = .str x := by cases h; rfl
theorem DpAll.two {K : PySem.W.Frag} {H : Hp} {xs : List V} {d e : PyData} (h : DpAll K H xs [d, e]) : ∃ v w, xs = [v, w] ∧ Dp K H v d ∧ Dp K H w e := by
  cases h with
  | cons h a => cases a with
    | cons g b => cases b; exact ⟨_, _, rfl, h, g⟩
theorem DpAll.ints {K : PySem.W.Frag} {H : Hp} : ∀ (l : List Int), DpAll K H (l.map V.int) (l.map PyData.int)
  | [] => .nil
  | i :: l => .cons (.int i) (DpAll.ints l)
theorem DpAll.strs {K : PySem.W.Frag} {H : Hp} : ∀ (l : List Str), DpAll K H (l.map V.str) (l.map PyData.str)
  | [] => .nil
  | i :: l => .cons (.str i) (DpAll.strs l)
theorem DpAll.ints_eq {K : PySem.W.Frag} {H : Hp} : ∀ {vs : List V} {l : List Int}, DpAll K H vs (l.map PyData.int) → vs = l.map V.int
  | [], [], _ => rfl
  | _ :: _, [], h => nomatch h
  | _, i :: l, .cons h a => by rw [Dp.int_eq h, DpAll.ints_eq a]; rfl
/-- an address that holds no list and no tuple is none of the data's -/
def NoSeq (o : HO) : Prop := (∀ xs, o ≠ .lst xs) ∧ (∀ xs, o ≠ .tup xs) ∧ ∀ ob u, o ≠ .frz ob u
theorem NoSeq.ins {C dx : Addr} {fs : List (Str × V)} : NoSeq (.ins C dx fs) := ⟨fun _ z => (nomatch z), fun _ z => (nomatch z), fun _ _ z => (nomatch z)⟩
theorem SqL.hide {K : PySem.W.Frag} {H : Hp} {a b : Addr} {o : HO} {xs : List V} (ha : H a = some o) (n : NoSeq o) (h : SqL K H b xs) : SqL K (Ts.hid a H) b xs := by
  have ne : ∀ u, H b = some u → u ≠ o → b ≠ a := fun u e d z => by rw [z, ha] at e; exact d (Option.some.inj e).symm
  rcases h with (h | ⟨ob, h⟩) | h
  · exact .inl (.inl ((Ts.hid_ne (ne _ h fun z => n.1 _ z.symm)).trans h))
  · exact .inl (.inr ⟨ob, (Ts.hid_ne (ne _ h fun z => n.2.2 _ _ z.symm)).trans h⟩)
  · exact .inr h
theorem SqT.hide {K : PySem.W.Frag} {H : Hp} {a b : Addr} {o : HO} {xs : List V} (ha : H a = some o) (n : NoSeq o) (h : SqT K H b xs) : SqT K (Ts.hid a H) b xs := by
  have ne : ∀ u, H b = some u → u ≠ o → b ≠ a := fun u e d z => by rw [z, ha] at e; exact d (Option.some.inj e).symm
  rcases h with (h | ⟨ob, h⟩) | h
  · exact .inl (.inl ((Ts.hid_ne (ne _ h fun z => n.2.1 _ z.symm)).trans h))
  · exact .inl (.inr ⟨ob, (Ts.hid_ne (ne _ h fun z => n.2.2 _ _ z.symm)).trans h⟩)
  · exact .inr h
mutual
theorem Dp.hide {K : PySem.W.Frag} {H : Hp} {a : Addr} {o : HO} (ha : H a = some o) (n : NoSeq o) : ∀ {v : V} {d : PyData}, Dp K H v d → Dp K (Ts.hid a H) v d
  | _, _, .non => .non
  | _, _, .bl b => .bl b
  | _, _, .int i => .int i
  | _, _, .str x => .str x
  | _, _, .lst h x => .lst (h.hide ha n) (DpAll.hide ha n x)
  | _, _, .tup h x => .tup (h.hide ha n) (DpAll.hide ha n x)
theorem DpAll.hide {K : PySem.W.Frag} {H : Hp} {a : Addr} {o : HO} (ha : H a = some o) (n : NoSeq o) : ∀ {vs : List V} {ds : List PyData}, DpAll K H vs ds → DpAll K (Ts.hid a H) vs ds
  | _, _, .nil => .nil
  | _, _, .cons h x => .cons (Dp.hide ha n h) (DpAll.hide ha n x)
end
end L2
namespace Ts
open PySem PySem.Spec PyProof.Rows L2
/-- a comprehension's clause without tests -/
theorem yesIf {σ : L2.St} {H : Hp} {A B : Hp → Prop} (h : A H) : tYes σ H (fun b H3 => if b = true then A H3 else B H3) := by
  show (if true = true then A H else B H)
  exact iteT h
/-! ## a def by its promise -/
section
variable (P : Program) (w : World) (K : PySem.W.Frag) (mg : Str → Option Value) (base : Heap)
structure Has (k : Nat) (x : Str) (ps : List Str) (sp : Sp) : Prop where
  ex : ∃ f fd, FnOk P w K mg base CX0 k f fd ps sp ∧ mg x = some (.ref f) ∧ PySem.W.keepIn K (.ref f) = true ∧ Binds K fd ps []
/-- a def that stands at the top under its name -/
structure DefAt (x : Str) (st : Stmt) : Prop where
  ex : ∃ f fd, Fun K x x st f fd ∧ mg x = some (.ref f)
/-- as FnOk, where no repr runs around the call -/
structure FnG (k : Nat) (f : Addr) (fd : FuncData) (ps : List Str) (sp : Sp) : Prop where
  len : ∀ vs H Q E, sp vs H Q E → vs.length = ps.length
  go : ∀ (A : Around) (out : List Env) (s : Shared) (H : Hp) (us : List Value) (vs : List V) (Q : VK), A.guards = some [] → Room k A → Env0 P w K mg base A out s H →
    BindsTo s fd ⟨us, []⟩ (ps.zip us) → Vals vs us → sp vs H Q E0 → codeAny (model P w) A (.call (.ref f) ⟨us, []⟩) (CR CX0 out P w H s Q E0) s
structure HasG (k : Nat) (x : Str) (ps : List Str) (sp : Sp) : Prop where
  ex : ∃ f fd, FnG P w K mg base k f fd ps sp ∧ mg x = some (.ref f) ∧ PySem.W.keepIn K (.ref f) = true ∧ Binds K fd ps []
end
section
variable {P : Program} {w : World} {K : PySem.W.Frag} {mg : Str → Option Value} {base : Heap}
theorem DefAt.has {x : Str} {st : Stmt} {k : Nat} {ps : List Str} {sp : Sp} (D : DefAt K mg x st)
    (hb : ∀ (kV doc pm : Value) (an : Option Addr) (cdv ct : Value) (us : List Value), us.length = ps.length → bindArgs (PySem.W.fnOf x x (defArgs st) (defBody st) (defScope st) .none kV doc pm an cdv ct) ⟨us, []⟩ = pure (ps.zip us))
    (ok : ∀ f fd, Fun K x x st f fd → FnOk P w K mg base CX0 k f fd ps sp) : Has P w K mg base k x ps sp := by
  obtain ⟨f, fd, F, hm⟩ := D.ex
  exact ⟨f, fd, ok f fd F, hm, F.kp, F.binds hb⟩
theorem DefAt.hasG {x : Str} {st : Stmt} {k : Nat} {ps : List Str} {sp : Sp} (D : DefAt K mg x st)
    (hb : ∀ (kV doc pm : Value) (an : Option Addr) (cdv ct : Value) (us : List Value), us.length = ps.length → bindArgs (PySem.W.fnOf x x (defArgs st) (defBody st) (defScope st) .none kV doc pm an cdv ct) ⟨us, []⟩ = pure (ps.zip us))
    (ok : ∀ f fd, Fun K x x st f fd → FnG P w K mg base k f fd ps sp) : HasG P w K mg base k x ps sp := by
  obtain ⟨f, fd, F, hm⟩ := D.ex
  exact ⟨f, fd, ok f fd F, hm, F.kp, F.binds hb⟩
end
section
variable {X : Cx} {k : Nat} {x : Str} {ps : List Str} {sp : Sp} {p pos : Pos} {e : Expr} {es : List Expr} {t : TA}
/-- a call of a def that keeps a promise -/
theorem pe_h (h : Has X.prog X.w X.K X.mg X.base k x ps sp) (hr : Room k X.A) (ha : PA X (e :: es) t) (hg : Gl X x := by rfl) (hdb : (x == ("__debug__" : Str)) = false := by decide)
    (he : starEach (e :: es) X.env = (false, eval e X.env) :: starEach es X.env := by rfl) (hpl : (backTo pos (starEach es X.env)).any (·.1) = false := by rfl) :
    PE X (.Call (.Name x p) (e :: es) [] pos) (tCall sp [] E0 t) := by
  obtain ⟨f, fd, F, hm, hk, hb⟩ := h.ex
  exact pe_call F hr hg hm hk hb .nil pass0 ha hdb he hpl
/-- .. of one that wants that no repr runs around -/
theorem pe_g (h : HasG X.prog X.w X.K X.mg X.base k x ps sp) (hgd : X.A.guards = some []) (hr : Room k X.A) (ha : PA X (e :: es) t) (hg : Gl X x := by rfl) (hdb : (x == ("__debug__" : Str)) = false := by decide)
    (he : starEach (e :: es) X.env = (false, eval e X.env) :: starEach es X.env := by rfl) (hpl : (backTo pos (starEach es X.env)).any (·.1) = false := by rfl) :
    PE X (.Call (.Name x p) (e :: es) [] pos) (tCall sp [] E0 t) := by
  obtain ⟨f, fd, F, hm, hk, hb⟩ := h.ex
  refine ⟨fun pins s σ H Q I q => ?_⟩
  refine wpAny_Call_Name_kw (ld_glob I hg hm ?_ hdb)
  refine PySem.W.callWith_K (h₀ := X.base) I.ok.mod.kin hk (thn (ha.run pos pins s σ H _ I q) fun us s1 hq => ?_) he hpl
  obtain ⟨vs, H1, I1, r, q1⟩ := hq
  have q2 : sp vs H1 Q E0 := by rw [List.append_nil] at q1; exact q1
  refine ⟨I1.kIn, wpAny_call (codeAny_mono (F.go X.A X.stack s1 H1 us vs Q hgd hr I1.env0 ?_ r q2) fun rr s2 z => ?_)⟩
  · have := hb s1 us I1.kIn (by rw [List.append_nil, ← r.length]; exact F.len _ _ _ _ q2)
    rw [List.append_nil] at this; exact this
  · cases rr with
    | error er => exact z.elim
    | ok fl => cases fl with
      | ret u => exact I1.after z
      | next => exact z.elim
      | brk => exact z.elim
      | cont => exact z.elim
end
/-- a def of the text in such surroundings, by its body -/
theorem fun_g {P : Program} {w : World} {K : PySem.W.Frag} {mg : Str → Option Value} {base : Heap} {x qual : Str} {st : Stmt} {f : Addr} {fd : FuncData} {N ps : List Str} {k : Nat} {sp : Sp} (F : Fun K x qual st f fd) (S : FnScope N ps (defScope st))
    (ln : ∀ vs H Q E, sp vs H Q E → vs.length = ps.length)
    (hb : ∀ (cdv : Value) (A : Around) (out : List Env) (s : Shared) (H : Hp) (vs : List V) (Q : VK), A.guards = some [] → Room k (A.deeper (envOfC qual (defScope st) s.heap.objs.size f cdv)) → sp vs H Q E0 →
      ∃ t, PSs (cxOf CX0 P w K mg base N qual (defScope st) f cdv A out s H E0).nox (defBody st) t ∧ t { nx := fun _ H' => Q .non H', rt := Q } (start N vs) H) : FnG P w K mg base (k + 1) f fd ps sp := by
  obtain ⟨oc, od, kV, doc, pm, an, cdv, ct, osl, rfl, lk, hcd⟩ := F.ex
  refine ⟨ln, fun A out s H us vs Q hg hr e0 hbd r q => ?_⟩
  -- the promise at this very place, for the one surrounding A
  let sp1 : Sp := fun vs' H' Q' _ => vs' = vs ∧ H' = H ∧ (∀ v h, Q v h → Q' v h)
  have kin : K.In s.heap := e0.mod.kin.keeps fun b o e => (e0.bs b o e).1
  have lim : s.heap.NoLimit := e0.mod.nolimit.keeps fun b o e => (e0.bs b o e).1
  have hvl : vs.length = ps.length := ln _ _ _ _ q
  have kinds : ∀ y ∈ ps.zip us, (defScope st).names.lookup y.1 = some .local ∨ ((defScope st).names.lookup y.1 = some .cell ∧ ((cellsFrom (s.heap.objs.size + 1) (defScope st).names []).lookup y.1).isSome = true) := by
    intro y hy
    have hm : y.1 ∈ ps := (List.of_mem_zip (a := y.1) (b := y.2) hy).1
    rcases S.par _ hm with z | z
    · exact Or.inl z
    · exact Or.inr ⟨z, PySem.W.cellsFrom_some _ _ _ (Or.inl z)⟩
  refine codeAny_call_function hr.depth (kin _ _ lk) rfl S.co S.gen rfl (PySem.W.codeRec_of kin hcd) (hbd _ _ _ _ ?_)
  refine wpAny_newFunctionEnv_cells S.kind kinds fun env he s1 ic => ?_
  subst he
  refine ⟨lim.keeps ic.toInCall.keep, codeAny_func ?_⟩
  obtain ⟨t, ht, hq⟩ := hb cdv A out s H vs Q hg (hr.deeper _) q
  have J := inv_start (CX := CX0) (E := E0) S hr.hd e0 hvl r ic
  refine wpAny_mono (ht.nox.run [] s1 (start N vs) H _ J hq) (fun fl s2 z => ?_) fun er s2 z => z
  cases fl with
  | ret u => obtain ⟨v, σ2, H2, J2, rv, q2⟩ := z; exact ⟨v, H2, J2.os, J2.bare, J2.base, J2.hok, rv, q2⟩
  | next => obtain ⟨σ2, H2, J2, q2⟩ := z; exact ⟨V.non, H2, J2.os, J2.bare, J2.base, J2.hok, rfl, q2⟩
  | brk => obtain ⟨_, _, _, z2⟩ := z; exact z2.elim
  | cont => obtain ⟨_, _, _, z2⟩ := z; exact z2.elim
/-! ## built-ins that the layer lacks -/
section
variable {X : Cx}
theorem cr_lcm : CallR X (.builtin "math.lcm") (fun vs H Q => ∃ a b : Nat, vs = [.int a, .int b] ∧ a < 2 ^ 31 ∧ b < 2 ^ 31 ∧ Q (.int ((Nat.lcm a b : Nat) : Int)) H) := by
  intro pins s σ H vs us Q I r h
  obtain ⟨a, b, rfl, ha, hb, q⟩ := h
  obtain ⟨t, u, rfl⟩ := Vals.int2 r
  have hl : Nat.lcm a b ≤ a * b := Nat.div_le_self _ _
  have hp : a * b < 2 ^ 62 := by
    rcases Nat.eq_zero_or_pos b with z | z
    · subst z; simp
    · calc a * b < 2 ^ 31 * b := Nat.mul_lt_mul_of_pos_right ha z
        _ ≤ 2 ^ 31 * 2 ^ 31 := Nat.mul_le_mul_left _ (Nat.le_of_lt hb)
        _ = 2 ^ 62 := by decide
  refine PySem.W.mg_lcm_v (c := ((Nat.lcm a b : Nat) : Int)) (by omega) (by omega) (by simp) ?_ ⟨.int _, H, I.tok _, ⟨_, rfl⟩, q⟩
  have h3 : ((Nat.lcm a b : Nat) : Int).natAbs < 2 ^ 62 := by simp; omega
  have h4 : ((Nat.lcm a b : Nat) : Int).natAbs.log2 < 62 ∨ ((Nat.lcm a b : Nat) : Int).natAbs = 0 := by
    by_cases z : ((Nat.lcm a b : Nat) : Int).natAbs = 0
    · exact Or.inr z
    · exact Or.inl ((Nat.log2_lt z).mpr h3)
  rcases h4 with h4 | h4
  · exact Nat.lt_of_lt_of_le h4 (by decide)
  · rw [h4]; decide
/-- repr of data, where no repr runs around -/
theorem call_reprD (hg : X.A.guards = some []) (hu : X.A.units + 100 < cLine) : CallR X (.builtin "repr") (fun xs H Q => ∃ a d, xs = [.ref a] ∧ Dp X.K H (.ref a) d ∧ d.showable = true ∧ d.hasDict = false ∧ d.depth < 60 ∧ d.shown.length ≤ sizeLine ∧ Q (.str d.shown) H) := by
  intro pins s σ H xs us Q I r h
  obtain ⟨a, d, rfl, hd, h1, h2, h3, h4, q⟩ := h
  obtain ⟨u, rfl, ru⟩ := vals1 r
  obtain rfl : u = Value.ref a := ru
  obtain ⟨as, rd⟩ := Dp.reads I d _ _ hd rfl
  exact repr_of_reads' rd h1 (PyData.noDict_hsm h2) hg (by omega) (fun _ _ e => e) (fun h' u tk hk => ⟨.str d.shown, H, I.kept hk, ⟨u, rfl⟩, q⟩) h4
end
/-! ## the rules with the written part named (for what stands in a comprehension) -/
section
variable {X : Cx} {K : PySem.W.Frag}
theorem ixL (h : X.K = K) : IxR X (rIxL K) := by subst h; exact ix_list
theorem ixT (h : X.K = K) : IxR X (rIxT K) := by subst h; exact ix_tup
theorem inS (h : X.K = K) : OpR X (compareOp .In) (rIn K false) := by subst h; exact op_in_seq
theorem lenS (h : X.K = K) : CallR X (.builtin "len") (fun xs H Q => ∃ p ys, xs = [.ref p] ∧ (SqL K H p ys ∨ SqT K H p ys) ∧ Q (.int ys.length) H) := by subst h; exact call_len_seq
theorem eqDK (h : X.K = K) (hu : X.A.units + 64 < cLine) : OpR X (compareOp .Eq) (rEqD K) := by subst h; exact op_eqD hu
theorem pg_tupK {es : List Expr} {k : Nat} {t : TGs} {n : Nat} {pos : Pos} (hK : X.K = K) (hc : X.calm = true) (h : PGs X es t)
    (hn : (assignEach es X.env).length = n := by rfl) (hst : (assignEach es X.env).findIdx? (·.1) = none := by rfl) : PG X (.Tuple es k pos) (gTup K n t) := by subst hK; exact pg_tup hc h hn hst
end
theorem pe_ty {X : Cx} {x : Str} {pos : Pos} (n : String) (hm : X.mg x = none) (hg : Gl X x := by rfl) (hv : bootBuiltins x = some (.type n) := by decide +kernel) (hn : x ≠ "__name__" := by decide) (hd : (x == ("__debug__" : Str)) = false := by decide) :
    PE X (.Name x pos) (tC (.ty n)) := pe_bltn hg hm hv rfl hn hd
end Ts
namespace Ts
open PySem PySem.Spec PyProof.Rows L2
/-- the built-in names that the texts use -/
structure Blt0 (mg : Str → Option Value) : Prop where
  zlen : mg "len" = none
  zrange : mg "range" = none
  zabs : mg "abs" = none
  zdivmod : mg "divmod" = none
  zint : mg "int" = none
  zstr : mg "str" = none
  zbool : mg "bool" = none
  zrepr : mg "repr" = none
  zisinstance : mg "isinstance" = none
  ztuple : mg "tuple" = none
  zlist : mg "list" = none
  zdict : mg "dict" = none
  zzip : mg "zip" = none
  zsum : mg "sum" = none
  zall : mg "all" = none
  zmax : mg "max" = none
  zmin : mg "min" = none
  zsorted : mg "sorted" = none
  zset : mg "set" = none
  zenumerate : mg "enumerate" = none
structure Blt (mg : Str → Option Value) : Prop extends Blt0 mg where
  g_gcd : mg "gcd" = some (.builtin "math.gcd")
  g_lcm : mg "lcm" = some (.builtin "math.lcm")
instance {mg : Str → Option Value} : Coe (Blt mg) (Blt0 mg) := ⟨Blt.toBlt0⟩
/-! ## the law's own draws -/
/-- at b: where draws come from -/
def Bas (H : Hp) (b : Addr) : Prop := ∃ x y z : Int, H b = some (.lst [.int x, .int y, .int z])
def spLadle : Sp := fun vs H Q _ => ∃ (b : Addr) (m : Int), vs = [.ref b, .int m] ∧ Bas H b ∧ 0 < m ∧ m < 1073741824 ∧
  ∀ (r : Int) (H' : Hp), 0 ≤ r → r < m → But b H H' → Bas H' b → Q (.int r) H'
/-- a basin made of a script of ints -/
def spBasin (K : PySem.W.Frag) : Sp := fun vs H Q _ => ∃ (a : Addr) (ns : List Int) (i : Nat), vs = [.ref a, .int i] ∧ SqL K H a (ns.map V.int) ∧ ns.length ≤ 63 ∧ i < 63 ∧
  ∀ (b : Addr) (H' : Hp), H b = none → Same H H' → Bas H' b → Q (.ref b) H'
/-- a drawn share -/
def GoodPart (m e p : Nat) : Prop := 1 ≤ e ∧ e ≤ p ∧ p ≤ m ∧ Nat.gcd e p = 1
/-! ## names -/
def IsTag (t : Str) : Prop := 1 ≤ t.length ∧ t.length ≤ 8 ∧ ∀ c ∈ t.cps.toList, 97 ≤ c ∧ c ≤ 122
/-! ## plain lists -/
theorem atI_in {xs : List V} {r : Int} (h0 : 0 ≤ r) (h1 : r < xs.length) : ∃ v, atI xs r = some v ∧ v ∈ xs := by
  obtain ⟨k, rfl⟩ := Int.eq_ofNat_of_zero_le h0
  have hk : k < xs.length := by omega
  exact ⟨xs[k], atI_nat (List.getElem?_eq_getElem hk), List.getElem_mem hk⟩
theorem map_take_succ {α β : Type} (f : α → β) {l : List α} {i : Nat} {x : α} (h : l[i]? = some x) : (l.take (i + 1)).map f = (l.take i).map f ++ [f x] := by
  rw [List.take_add_one, h, List.map_append]; rfl
theorem filter_take_succ {α : Type} (f : α → Bool) {l : List α} {i : Nat} {x : α} (h : l[i]? = some x) : (l.take (i + 1)).filter f = (l.take i).filter f ++ if f x then [x] else [] := by
  rw [List.take_add_one, h, List.filter_append]
  congr 1
  show List.filter f [x] = _
  by_cases c : f x = true
  · rw [if_pos c, List.filter_cons_of_pos c]; rfl
  · rw [if_neg c, List.filter_cons_of_neg c]; rfl
/-- what grows at a new place: what stood ahead of it stands -/
theorem Same.app {H0 H1 : Hp} {D : Addr} {o : HO} (h0 : H0 D = none) (s : Same H0 H1) : Same H0 (upd H1 D o) := fun a u e => by
  rw [upd_ne (ne_of_none e h0)]; exact s a u e
theorem abc_has {c : Nat} (h : 97 ≤ c ∧ c ≤ 122) : c ∈ (Str.ofString "abcdefghijklmnopqrstuvwxyz").cps.toList := by
  have e : (Str.ofString "abcdefghijklmnopqrstuvwxyz").cps.toList = (List.range 26).map (97 + ·) := by decide +kernel
  rw [e]
  exact List.mem_map.mpr ⟨c - 97, List.mem_range.mpr (by omega), by omega⟩
end Ts
namespace Ts
open PySem PySem.Spec PyProof.Rows L2
/-! ## works -/
abbrev Job := Str × Nat × Nat
def partD (e p : Nat) : PyData := .tuple [.int (e : Int), .int (p : Int)]
def jobD (j : Job) : PyData := .tuple [.str j.1, partD j.2.1 j.2.2]
def jobsD (js : List Job) : PyData := .list (js.map jobD)
/-- works with names of their own and shares up to d -/
structure Good (d : Nat) (js : List Job) : Prop where
  nd : (js.map (·.1)).Nodup
  tag : ∀ j ∈ js, IsTag j.1
  part : ∀ j ∈ js, GoodPart d j.2.1 j.2.2
/-! ## the text of a lot -/
def numS (n : Nat) : Str := Str.ofString (toString ((n : Nat) : Int))
def nlS : Str := Str.ofString "\n"
def rowS (j : Job) : Str := Str.ofString "work " ++ j.1 ++ Str.ofString " " ++ numS j.2.1 ++ Str.ofString "/" ++ numS j.2.2
def handsS (n : Nat) : Str := Str.ofString "hands " ++ numS n
def rowsOf (n : Nat) (js : List Job) : List Str := handsS n :: js.map rowS
def pageS (n : Nat) (js : List Job) : Str := Txt.join nlS (rowsOf n js)
theorem numS_tl (n : Nat) : TL.tl (numS n) = TL.numL n := TL.tl_num n
theorem numS_len {n : Nat} (h : n ≤ 1000) : (numS n).length ≤ 4 := by
  rw [TL.len_tl, numS_tl]
  exact TL.numL_len (by decide) (show n < 10 ^ 4 by omega)
theorem rowS_len {j : Job} (ht : IsTag j.1) (hp : GoodPart 1000 j.2.1 j.2.2) : (rowS j).length ≤ 23 := by
  obtain ⟨h1, h2, h3, h4⟩ := hp
  have a := numS_len (n := j.2.1) (by omega)
  have b := numS_len (n := j.2.2) (by omega)
  have c := ht.2.1
  have e1 : (Str.ofString "work ").length = 5 := by decide
  have e2 : (Str.ofString " ").length = 1 := by decide
  have e3 : (Str.ofString "/").length = 1 := by decide
  unfold rowS
  rw [Str.length_append, Str.length_append, Str.length_append, Str.length_append, Str.length_append, e1, e2, e3]
  omega
theorem Good.mono {d d' : Nat} {js : List Job} (g : Good d js) (h : d ≤ d') : Good d' js :=
  ⟨g.nd, g.tag, fun j hj => let ⟨a, b, c, e⟩ := g.part j hj; ⟨a, b, Nat.le_trans c h, e⟩⟩
/-- what an element of the data looks like -/
theorem job_at {K : PySem.W.Frag} {H : Hp} {xs : List V} {js : List Job} (h : DpAll K H xs (js.map jobD)) {i : Nat} {x : V} (e : xs[i]? = some x) :
    ∃ (j : Job) (a q : Addr), js[i]? = some j ∧ x = .ref a ∧ SqT K H a [.str j.1, .ref q] ∧ SqT K H q [.int (j.2.1 : Int), .int (j.2.2 : Int)] := by
  obtain ⟨d, hd, hv⟩ := h.get e
  rw [List.getElem?_map] at hd
  cases ej : js[i]? with
  | none => rw [ej] at hd; cases hd
  | some j =>
    rw [ej] at hd
    have : jobD j = d := Option.some.inj hd
    subst this
    obtain ⟨a, ys, rfl, ha, hy⟩ := hv.tuple
    obtain ⟨v, u, rfl, h1, h2⟩ := hy.two
    obtain ⟨q, zs, rfl, hq, hz⟩ := h2.tuple
    obtain ⟨s, t, rfl, h3, h4⟩ := hz.two
    rw [h1.str_eq] at ha
    rw [h3.int_eq, h4.int_eq] at hq
    exact ⟨j, a, q, rfl, rfl, ha, hq⟩
theorem _root_.L2.DpAll.snoc {K : PySem.W.Frag} {H : Hp} {vs : List V} {ds : List PyData} {v : V} {d : PyData} (h : DpAll K H vs ds) (g : Dp K H v d) : DpAll K H (vs ++ [v]) (ds ++ [d]) := h.append (.cons g .nil)
end Ts
namespace Ts
open PySem PySem.Spec PyProof.Rows L2
/-! ## tuple(what a dict gives) -/
section
variable {prog : Program} {w : World} {A : Around} {E : Value → Shared → Prop} {s : Shared} {T : String} {r d : Addr} {n : Nat} {C : Nat → Value → Prop} {OK : Heap → Prop}
theorem tuple_code {R : Value → Shared → Prop} (S : PySem.W.KdlSrc prog w T r d n C OK) (hh : A.handled = none) (ok : OK s.heap) (hn : n ≤ sizeLine)
    (h : ∀ (h' : Heap) (tk : Nat) (acc : Array Value), (∀ b o, s.heap.get? b = some o → h'.get? b = some o) → ItemsOf C acc n → R (.ref h'.objs.size) { s with heap := h'.push { cls := .type "tuple", data := .seq acc }, toks := tk }) :
    codeAny (model prog w) A (.call (.builtin "tuple.__new__") ⟨[.type "tuple", .ref r], []⟩) (wants R E) s := by
  refine codeAny_of_tree (show wpAny _ A.in1 (checkBuiltinCall "tuple.__new__" ⟨[.type "tuple", .ref r], []⟩ >>= fun _ => again (.builtin "tuple.__new__" ⟨[.type "tuple", .ref r], []⟩)) _ _ s from ?_)
  refine wpAny_bind (wpAny_of_eq (F.newCall_tuple_1 _) (wpAny_pure (And.intro (plainId_quiet F.plain_tuple_new _) (codeAny_builtin F.entry_tuple_new ?_))))
  rw [Around.under_plainId F.plain_tuple_new _]
  have e1 := sub_tuple_self
  have e2 := init_tuple_lookup
  have e3 := madeHere_tuple
  have tI := S.type s ok
  have n1 := S.notTuple
  have n2 := S.notList
  have hh1 : A.in1.handled = none := hh
  wp_walk using wpAny_typeOf tI, PySem.W.kdu_collect (A := A.in1) S hh1 ok hn
  intro h' tk acc hk hacc
  show wpAny _ _ ((Builtin.Tuple.tupleExact acc.toList.toArray).bind fun v => ret v) _ _ _
  unfold Builtin.Tuple.tupleExact
  have ea : acc.toList.toArray = acc := by simp
  refine wpAny_bind (wpAny_newObj_type (wpAny_pure ?_) (by rw [ea]; show acc.size ≤ sizeLine; rw [hacc.1]; exact hn))
  rw [ea]
  exact h h' tk acc hk hacc
theorem tuple_src {Q : Value → Shared → Prop} (S : PySem.W.KdlSrc prog w T r d n C OK) (hh : A.handled = none) (ok : OK s.heap) (hn : n ≤ sizeLine)
    (hQ : ∀ (h' : Heap) (tk : Nat) (acc : Array Value), (∀ b o, s.heap.get? b = some o → h'.get? b = some o) → ItemsOf C acc n → Q (.ref h'.objs.size) { s with heap := h'.push { cls := .type "tuple", data := .seq acc }, toks := tk }) :
    wpAny (model prog w) A (call (.type "tuple") [.ref r]) Q E s := by
  refine callType_codes (Q₁ := fun ob s1 => s1.TypeIs ob "tuple" ∧ Q ob s1) F.called_tuple (F.typeCall_tuple_1 _) F.entry_object_init
    (tuple_code (A := A.in1) S hh ok hn fun h' tk acc k1 k2 => And.intro ⟨_, Heap.get?_push_size _ rfl, rfl⟩ (hQ h' tk acc k1 k2)) fun ob s1 z => ?_
  exact And.intro z.1 (And.intro (F.args_object_init_2 ob _) (object_init_meets F.called_tuple.init.lookup F.called_tuple.made (by decide) prog w A.in1 _ s1 (And.intro z.1 (And.intro rfl z.2))))
end
section
variable {X : Cx} {p pos apos cpos : Pos} {e : Expr} {td : TE}
theorem call_tuple_dK (hc : X.calm = true) : CallR X (.type "tuple") (fun xs H Q => ∃ d kvs, xs = [.ref d] ∧ H d = some (.dK kvs) ∧ ∀ q ob, H q = none → ob.cls = .type "tuple" → ob.dict = none → Q (.ref q) (upd H q (.frz ob (.tup (kvs.map fun kv => kV kv.1))))) := by
  intro pins s σ H xs us Q I r h
  obtain ⟨d, kvs, rfl, hd, q⟩ := h
  obtain ⟨u, rfl, ru⟩ := vals1 r
  obtain rfl : u = Value.ref d := ru
  obtain ⟨z, lo, vs, rk, dd⟩ := (show ObjOk X.prog X.w H s.heap d (.dK kvs) from I.hok d _ hd)
  obtain ⟨ep, dat⟩ := dd.dictAt
  have hl : kvs.length = vs.length := Paired.length rk
  refine tuple_src (PySem.W.kdl_dict (knd := mixKind X.prog X.w) (kvs := vs) (ep := ep) lo) (I.ok.hd hc) dat (by omega) fun h' tk acc k1 k2 => ?_
  have J : Inv X pins σ H { s with heap := h', toks := tk } := I.kept k1
  have al : acc.toList.length = acc.size := by simp
  have rv : Vals (kvs.map fun kv => kV kv.1) acc.toList := by
    refine vals_of_at (by rw [List.length_map, al, k2.1, hl]) fun j x u h1 h2 => ?_
    obtain ⟨k, y, e1, e2⟩ := k2.2 j u (by rw [← Array.getElem?_toList]; exact h2)
    have e3 : (kvs.map (·.1))[j]? = some k := by rw [KV.keys rk, List.getElem?_map, e1]; rfl
    rw [List.getElem?_map] at e3 h1
    cases e4 : kvs[j]? with
    | none => rw [e4] at e3; cases e3
    | some kv =>
      rw [e4] at e3 h1
      have e5 : kv.1 = k := Option.some.inj e3
      have e6 : kV kv.1 = x := Option.some.inj h1
      rw [← e6, e5]
      exact keyIs_rel e2
  refine ⟨.ref h'.objs.size, upd H h'.objs.size (.frz { cls := .type "tuple", data := .seq acc } (.tup (kvs.map fun kv => kV kv.1))), J.laid (t' := tk) (fun b o z => Heap.get?_push_of_some _ z) (Nat.le_refl _) ⟨Heap.get?_push_size _ rfl, by rw [List.length_map]; exact z, acc.toList, rv, ?_⟩, rfl, q _ _ (J.hok.fresh (Nat.le_refl _)) rfl rfl⟩
  rw [Array.toArray_toList]
  exact ⟨_, Heap.get?_push_size _ rfl, rfl, _, rfl⟩
/-- tuple(e.values()) -/
def tTupVals (td : TE) : TE := fun σ H Q => td σ H fun x H1 => ∃ d kvs, x = .ref d ∧ H1 d = some (.dK kvs) ∧ ∀ q, H1 q = none → Q (.ref q) (upd H1 q (.tup (kvs.map (·.2))))
theorem pe_tupVals (hc : X.calm = true) (hg : Gl X "tuple") (hm : X.mg "tuple" = none) (he : PE X e td) (hbase : attributeBase e "values" X.env (eval e X.env) = eval e X.env := by rfl) (hline : (apos.endLine == cpos.line) = true := by rfl)
    (hse : starEach [Expr.Call (.Attribute e "values" apos) [] [] cpos] X.env = [(false, eval (Expr.Call (.Attribute e "values" apos) [] [] cpos) X.env)] := by rfl) :
    PE X (.Call (.Name "tuple" p) [.Call (.Attribute e "values" apos) [] [] cpos] [] pos) (tTupVals td) := by
  refine ⟨fun pins s σ H Q I h => ?_⟩
  refine Call_ (ld_blt I hg hm boot_tuple (PyProof.Rows.callWith_type1 (args_cons ?_ hse) hse))
  refine wpAny_Call_method0_late hbase hline (thn (he.run pins s σ H _ I h) fun v s1 ⟨x, H1, I1, r1, d, kvs, ex, hd, q⟩ => ?_)
  subst ex
  obtain rfl : v = Value.ref d := r1
  obtain ⟨z, hsys, vs, rel, dof⟩ := dk_of I1.hok hd
  obtain ⟨ep, dat⟩ := dof.dictAt
  obtain ⟨ob, es, ho, ex, hdat, hko, hpr, hnd⟩ := id dat
  refine ⟨"dict", "dict.values", F.plainAttrs_dict, F.slot_dict_values, F.type_dict_values, ⟨ob, ho, ex.1⟩, fun b e => ?_, Calls.callWith_builtin rfl (PySem.evalArgs_none ?_)⟩
  · cases e
    exact ⟨ob, ho, ex.2.1⟩
  refine call_meetsIn F.slot_dict_values ⟨ob, ho, ex.1⟩ F.entry_dict_values (F.args_dict_values_1 _) (meets_dict_values (mixKind X.prog X.w) d hsys) (And.intro ⟨vs, dof⟩ ?_)
  -- the view stands at the next address
  have I2 : Inv X pins σ H1 { s1 with heap := s1.heap.push { cls := .type "dict_values", data := .fields #[.ref d] } } := I1.kept (t' := s1.toks) fun b u z => Heap.get?_push_of_some _ z
  have dat2 : (s1.heap.push { cls := .type "dict_values", data := .fields #[.ref d] }).DictAt (mixKind X.prog X.w) d vs ep := dat.keep fun b u z => Heap.get?_push_of_some _ z
  have hl : kvs.length = vs.length := KV.length rel
  refine args_nil (tuple_src (PySem.W.kdl_values (knd := mixKind X.prog X.w) (kvs := vs) (ep := ep) (d := d) (r := s1.heap.objs.size)) (I.ok.hd hc) (And.intro ⟨_, Heap.get?_push_size _ rfl, rfl, rfl⟩ dat2) (by omega) fun h' tk acc k1 k2 => ?_)
  have J : Inv X pins σ H1 { s1 with heap := h', toks := tk } := I2.kept k1
  have al : acc.toList.length = acc.size := by simp
  have rv : Vals (kvs.map (·.2)) acc.toList := by
    refine vals_of_at (by rw [List.length_map, al, k2.1, hl]) fun j y u h1 h2 => ?_
    obtain ⟨k, e1⟩ := k2.2 j u (by rw [← Array.getElem?_toList]; exact h2)
    obtain ⟨y', e2, e3⟩ := KV.at' rel e1
    rw [List.getElem?_map, e2] at h1
    have e6 : y' = y := Option.some.inj h1
    rw [← e6]; exact e3
  refine ⟨.ref h'.objs.size, upd H1 h'.objs.size (.tup (kvs.map (·.2))), J.laid (t' := tk) (fun b o z => Heap.get?_push_of_some _ z) (Nat.le_refl _) ⟨by rw [List.length_map]; exact z, acc.toList, rv, ?_⟩, rfl, q _ (J.hok.fresh (Nat.le_refl _))⟩
  rw [Array.toArray_toList]
  exact ⟨_, Heap.get?_push_size _ rfl, rfl, _, rfl⟩
/-- all(a list of truths) -/
theorem call_allB (hc : X.calm = true) : CallR X (.builtin "all") (fun xs H Q => ∃ (a : Addr) (bs : List Bool), xs = [.ref a] ∧ SqL X.K H a (bs.map V.bl) ∧ Q (.bl (bs.all id)) H) := by
  intro pins s σ H xs us Q I r h
  obtain ⟨a, bs, rfl, hs, q⟩ := h
  obtain ⟨u, rfl, ru⟩ := vals1 r
  obtain rfl : u = Value.ref a := ru
  obtain ⟨its, rv, pl, hz⟩ := I.list hs
  have al : a < s.heap.objs.size := by obtain ⟨o, n, e, _⟩ := pl; exact Heap.lt_size e
  have len : its.length = bs.length := by rw [← rv.length, List.length_map]
  have W := Walks.list (prog := X.prog) (w := X.w) (A := X.A.in1) (I.ok.hd hc) s.heap.objs.size a (Nat.ne_of_lt al) its.toArray
  refine call_all_walk (wpAny_pyIter_list pl.isList ?_)
  refine ⟨s.heap.objs.size, _, _, its.toArray.size, _, _, fun i => bs.getD i true, rfl, W, (show Heap.IsListIter (s.heap.push _) s.heap.objs.size a 0 ∧ Heap.IsList (s.heap.push _) a its.toArray from And.intro ⟨_, Heap.get?_push_size _ rfl, rfl, rfl⟩ (pl.isList.push _)), ?_, fun h' tk hk => ?_⟩
  · intro i v s2 Q2 E2 hv hq
    have hv' : its[i]? = some v := by simpa using hv
    have hi : i < bs.length := by rw [← len]; exact (List.getElem?_eq_some_iff.mp hv').1
    obtain ⟨u2, e1, e2⟩ := rv.get (i := i) (x := V.bl bs[i]) (by rw [List.getElem?_map, List.getElem?_eq_getElem hi]; rfl)
    rw [hv'] at e1
    have e3 : v = u2 := Option.some.inj e1
    subst e3
    obtain rfl : v = Value.bool bs[i] := e2
    have e4 : bs.getD i true = bs[i] := by rw [List.getD_eq_getElem?_getD, List.getElem?_eq_getElem hi]; rfl
    have hq2 : Q2 (bs.getD i true) s2 := hq
    rw [e4] at hq2
    exact wpAny_truthy_bool hq2
  · have J : Inv X pins σ H { s with heap := h', toks := tk } := I.kept fun b o z => hk b o (fun m => absurd (Heap.lt_size z) (by rw [List.mem_singleton.mp m]; exact Nat.lt_irrefl _)) (Heap.get?_push_of_some _ z)
    refine ⟨.bl _, H, J, ?_, q⟩
    show Value.bool _ = Value.bool _
    congr 1
    have ls : its.toArray.size = bs.length := by simp [len]
    rw [ls, Bool.eq_iff_iff]
    simp only [List.all_eq_true, List.mem_range]
    constructor
    · intro z b hb
      obtain ⟨i, hi, e⟩ := List.mem_iff_getElem.mp hb
      have := z i hi
      rw [List.getD_eq_getElem?_getD, List.getElem?_eq_getElem hi] at this
      rw [← e]; exact this
    · intro z i hi
      rw [List.getD_eq_getElem?_getD, List.getElem?_eq_getElem hi]
      exact z _ (List.getElem_mem hi)
/-- first, *rest = a list that is not empty: rest is a new list -/
def gStar (K : PySem.W.Frag) (i j : Nat) : TG := fun v σ H Q => ∃ a x xs, v = .ref a ∧ SqL K H a (x :: xs) ∧ xs.length ≤ 16000 ∧ ∀ p, H p = none → Q ((σ.set i (some x)).set j (some (.ref p))) (upd H p (.lst xs))
theorem pg_star {i j : Nat} {x y : Str} {k : Nat} {px py ps tp : Pos} (hc : X.calm = true) (hN : X.N.Nodup) (hi : X.N[i]? = some x) (hj : X.N[j]? = some y) (hx : X.env.scope.names.lookup x = some .local) (hy : X.env.scope.names.lookup y = some .local)
    (he : assignEach [.Name x px, .Starred (.Name y py) ps] X.env = [(false, assign (.Name x px) X.env), (true, assign (.Name y py) X.env)] := by rfl) :
    PG X (.Tuple [.Name x px, .Starred (.Name y py) ps] k tp) (gStar X.K i j) := by
  refine ⟨fun pins s σ H v u Q I r hw => ?_⟩
  obtain ⟨a, z, zs, rfl, hs, hz, q⟩ := hw
  obtain rfl : u = Value.ref a := r
  obtain ⟨its, rv, pl, _⟩ := I.list hs
  cases rv with
  | @cons _ w1 _ ws r1 rr =>
    have wl : ws.length = zs.length := rr.length.symm
    have L : s.heap.IsList a (w1 :: ws).toArray := pl.isList
    have al : a < s.heap.objs.size := by obtain ⟨o, ho, _⟩ := L; exact Heap.lt_size ho
    rw [PyProof.Rows.assign_Tuple]
    refine wpAny_bind (wpAny_standAt ?_)
    unfold unpack
    rw [he]
    show wpAny _ _ (holding [Value.ref a] (unpackItems (.ref a) 2 (some 1)) >>= fun vs => assignInOrder [assign (.Name x px) X.env, assign (.Name y py) X.env] vs) _ _ s
    refine wpAny_bind (wpAny_holding ?_)
    unfold unpackItems
    refine wpAny_bind (show wpAny _ _ (notIterableAtAll (.ref a)) _ _ _ from ?_)
    unfold notIterableAtAll
    refine wpAny_bind (wpAny_specialOf L.typeIs slot_list_iter.lookup (wpAny_pure ?_))
    simp only [Bool.false_eq_true, if_false]
    refine wpAny_bind (wpAny_holding (wpAny_pyIter_list L (wpAny_bind (wpAny_holding ?_))))
    refine PySem.W.kun_draw (Nat.ne_of_lt al) 1 0 _ _ ⟨_, Heap.get?_push_size _ rfl, rfl, rfl⟩ (L.push _) (by simp) fun h1 t1 s1 => ?_
    have L1 : h1.IsList a (w1 :: ws).toArray := (L.push _).extBut s1.extBut (Nat.ne_of_lt al)
    have t1' : h1.IsListIter s.heap.objs.size a 1 := t1
    have l1 : s.heap.objs.size < h1.objs.size := by obtain ⟨o, ho, _⟩ := t1'; exact Heap.lt_size ho
    have l2 : a < h1.objs.size := by obtain ⟨o, ho, _⟩ := L1; exact Heap.lt_size ho
    have sz : (w1 :: ws).toArray.size = ws.length + 1 := by simp
    show wpAny _ _ (if ([w1] : List Value).length < 1 then _ else _) _ _ _
    rw [if_neg (show ¬ ([w1] : List Value).length < 1 from Nat.lt_irrefl 1)]
    have W := Walks.list (prog := X.prog) (w := X.w) (A := X.A.in1) (I.ok.hd hc) s.heap.objs.size a (Nat.ne_of_lt al) (w1 :: ws).toArray
    refine wpAny_bind (wpAny_holding (PySem.W.kun_collect (T := "list_iterator") (.inr (.inr (.inl rfl))) W (fun j u st => st.1.typeIs) (k := 1) (by rw [sz]; omega) (And.intro t1' L1) l1 l2 (fun h2 tk hk => ?_) (by rw [sz, sizeLine_eq]; omega)))
    have dr : (w1 :: ws).toArray.toList.drop 1 = ws := by simp
    rw [dr]
    show wpAny _ _ (if ws.length < 0 then _ else _) _ _ _
    rw [if_neg (Nat.not_lt_zero _)]
    show wpAny _ _ (newList (ws.take (ws.length - 0)) >>= fun d => pure ([w1] ++ [d] ++ ws.drop (ws.length - 0))) _ _ _
    rw [Nat.sub_zero, List.take_length, List.drop_length]
    have I1 : Inv X pins σ H { s with heap := h2, toks := tk } := I.kept fun b o e => hk b o (Nat.ne_of_lt (Heap.lt_size e)) (s1.extBut b o (Nat.ne_of_lt (Heap.lt_size e)) (Heap.get?_push_of_some _ e))
    refine wpAny_bind (show wpAny _ _ (newList ws) _ _ _ from wpAny_newObj_type (wpAny_pure ?_) (by show ws.toArray.size ≤ sizeLine; rw [List.size_toArray, sizeLine_eq]; omega))
    have hp := I1.hok.fresh (Nat.le_refl h2.objs.size)
    have I2 : Inv X pins σ (upd H h2.objs.size (.lst zs)) { s with heap := h2.push { cls := .type "list", data := .seq ws.toArray }, toks := tk } :=
      I1.laid (t' := tk) (fun b o e => Heap.get?_push_of_some _ e) (Nat.le_refl _) ⟨by rw [sizeLine_eq]; omega, ws, 0, rr, Heap.get?_push_size _ rfl⟩
    show wpAny _ _ (assignInOrder [assign (.Name x px) X.env, assign (.Name y py) X.env] [w1, Value.ref h2.objs.size]) _ _ _
    refine assignInOrder_cons (wpAny_assign_Name (store_ok I2 hN hi (.inl hx) r1 (fun s3 I3 => ?_) (.inr hx)))
    refine assignInOrder_cons (wpAny_assign_Name (store_ok (v := V.ref h2.objs.size) I3 hN hj (.inl hy) rfl (fun s4 I4 => assignInOrder_nil ⟨_, _, I4, q _ hp⟩) (.inr hy)))
end
end Ts
namespace Ts
open PySem PySem.Spec PyProof.Rows L2
/-! ## constants of the text -/
section
variable {X : Cx} {x y : Str} {i : Int} {pos : Pos}
theorem pe_gint (h : ∃ t, X.mg x = some (.int i t)) (hg : Gl X x := by rfl) (hd : (x == ("__debug__" : Str)) = false := by decide) : PE X (.Name x pos) (tC (.int i)) := by
  obtain ⟨t, h⟩ := h
  exact pe_glob hg h ⟨t, rfl⟩ hd
theorem pe_gstr (h : ∃ t, X.mg x = some (.str y t)) (hg : Gl X x := by rfl) (hd : (x == ("__debug__" : Str)) = false := by decide) : PE X (.Name x pos) (tC (.str y)) := by
  obtain ⟨t, h⟩ := h
  exact pe_glob hg h ⟨t, rfl⟩ hd
end
structure Cst (mg : Str → Option Value) : Prop where
  MOST_WORKS : ∃ t, mg "MOST_WORKS" = some (.int 6 t)
  MOST_HANDS : ∃ t, mg "MOST_HANDS" = some (.int 6 t)
  MOST_PERIOD : ∃ t, mg "MOST_PERIOD" = some (.int 16 t)
  LONGEST_NAME : ∃ t, mg "LONGEST_NAME" = some (.int 8 t)
  LETTERS : ∃ t, mg "LETTERS" = some (.str (Str.ofString "abcdefghijklmnopqrstuvwxyz") t)
/-! ## plain values -/
def spIsNumber : Sp := fun vs H Q _ => ∃ (v lo hi : Int), vs = [.int v, .int lo, .int hi] ∧ Q (.bl (decide (lo ≤ v ∧ v ≤ hi))) H
def spIsNumberFrom : Sp := fun vs H Q _ => ∃ (v lo : Int), vs = [.int v, .int lo] ∧ Q (.bl (decide (lo ≤ v))) H
def spIsName : Sp := fun vs H Q _ => ∃ (t : Str), vs = [.str t] ∧ IsTag t ∧ ∀ H', Same H H' → Q (.bl true) H'
def spIsShare : Sp := fun vs H Q _ => ∃ (q : Addr) (e p : Nat), vs = [.ref q] ∧ H q = some (.tup [.int (e : Int), .int (p : Int)]) ∧ GoodPart 16 e p ∧ Q (.bl true) H
/-! ## texts read -/
def spReadNumber : Sp := fun vs H Q _ => ∃ (n m : Nat), vs = [.str (numS n), .int m] ∧ 1 ≤ n ∧ n ≤ m ∧ m ≤ 1000 ∧ Q (.int n) H
def spReadHands : Sp := fun vs H Q _ => ∃ (n : Nat), vs = [.str (handsS n)] ∧ 1 ≤ n ∧ n ≤ 6 ∧ ∀ H', Same H H' → Q (.int n) H'
def spReadWork : Sp := fun vs H Q _ => ∃ (j : Job), vs = [.str (rowS j)] ∧ IsTag j.1 ∧ GoodPart 16 j.2.1 j.2.2 ∧
  ∀ (p q : Addr) H', Same H H' → H' p = some (.tup [.str j.1, .ref q]) → H' q = some (.tup [.int (j.2.1 : Int), .int (j.2.2 : Int)]) → Q (.ref p) H'
/-- a dict with the works' names and shares -/
def KvsOf (K : PySem.W.Frag) (H : Hp) (kvs : List (Key × V)) (js : List Job) : Prop := kvs.map (·.1) = js.map (fun j => (Sum.inr j.1 : Key)) ∧ DpAll K H (kvs.map (·.2)) (js.map fun j => partD j.2.1 j.2.2)
def spReadWorks (K : PySem.W.Frag) : Sp := fun vs H Q _ => ∃ (a : Addr) (js : List Job), vs = [.ref a] ∧ SqL K H a ((js.map rowS).map V.str) ∧ Good 16 js ∧ js.length ≤ 20 ∧
  ∀ (d : Addr) (kvs : List (Key × V)) (H' : Hp), Same H H' → H d = none → H' d = some (.dK kvs) → KvsOf K H' kvs js → Q (.ref d) H'
/-! ## totals -/
def spanN (js : List Job) : Nat := js.foldl (fun s j => Nat.lcm s j.2.2) 1
def partsN (js : List Job) (s : Nat) : Nat := (js.map fun j => j.2.1 * (s / j.2.2)).sum
def totTop (js : List Job) : Nat := partsN js (spanN js) / Nat.gcd (partsN js (spanN js)) (spanN js)
def totBot (js : List Job) : Nat := spanN js / Nat.gcd (partsN js (spanN js)) (spanN js)
def sharesD (js : List Job) : List PyData := js.map fun j => partD j.2.1 j.2.2
def namesD (js : List Job) : List PyData := js.map fun j => .str j.1
def spSpanOf (K : PySem.W.Frag) : Sp := fun vs H Q _ => ∃ (a : Addr) (xs : List V) (js : List Job), vs = [.ref a] ∧ SqT K H a xs ∧ DpAll K H xs (sharesD js) ∧ Good 16 js ∧ ∀ H', Same H H' → Q (.int (spanN js)) H'
def spTotalOf (K : PySem.W.Frag) : Sp := fun vs H Q _ => ∃ (a : Addr) (xs : List V) (js : List Job), vs = [.ref a, .int (spanN js)] ∧ SqT K H a xs ∧ DpAll K H xs (sharesD js) ∧ Good 16 js ∧ js.length ≤ 20 ∧
  ∀ (p : Addr) H', Same H H' → H p = none → H' p = some (.tup [.int (totTop js : Int), .int (totBot js : Int)]) → Q (.ref p) H'
theorem dvd_big {p : Nat} (h0 : 1 ≤ p) (h1 : p ≤ 16) : p ∣ 720720 := by
  have : ∀ q : Fin 17, 1 ≤ q.val → q.val ∣ 720720 := by decide +kernel
  exact this ⟨p, by omega⟩ h0
theorem span_dvd_go : ∀ (js : List Job) (s : Nat), s ∣ 720720 → (∀ j ∈ js, GoodPart 16 j.2.1 j.2.2) → js.foldl (fun s j => Nat.lcm s j.2.2) s ∣ 720720
  | [], s, h, _ => h
  | j :: js, s, h, g => by
    obtain ⟨a, b, c, _⟩ := g j List.mem_cons_self
    exact span_dvd_go js _ (Nat.lcm_dvd h (dvd_big (by omega) c)) fun k hk => g k (List.mem_cons_of_mem _ hk)
theorem span_dvd {js : List Job} (g : Good 16 js) : spanN js ∣ 720720 := span_dvd_go js 1 (Nat.one_dvd _) g.part
theorem span_pos {js : List Job} (g : Good 16 js) : 0 < spanN js := Nat.pos_of_dvd_of_pos (span_dvd g) (by decide)
theorem span_le {js : List Job} (g : Good 16 js) : spanN js ≤ 720720 := Nat.le_of_dvd (by decide) (span_dvd g)
theorem dvd_span_go : ∀ (js : List Job) (s : Nat), s ∣ js.foldl (fun s j => Nat.lcm s j.2.2) s ∧ ∀ j ∈ js, j.2.2 ∣ js.foldl (fun s j => Nat.lcm s j.2.2) s
  | [], s => ⟨Nat.dvd_refl _, by simp⟩
  | k :: js, s => by
    obtain ⟨h1, h2⟩ := dvd_span_go js (Nat.lcm s k.2.2)
    refine ⟨Nat.dvd_trans (Nat.dvd_lcm_left _ _) h1, fun j hj => ?_⟩
    rcases List.mem_cons.mp hj with rfl | hj
    · exact Nat.dvd_trans (Nat.dvd_lcm_right _ _) h1
    · exact h2 j hj
theorem dvd_span {js : List Job} {j : Job} (h : j ∈ js) : j.2.2 ∣ spanN js := (dvd_span_go js 1).2 j h
/-! ## a lot -/
def lotF (t : Str) (n : Int) (pn ps : Addr) (sp : Int) (pt : Addr) : List (Str × V) :=
  putF "_total" (.ref pt) (putF "_span" (.int sp) (putF "_shares" (.ref ps) (putF "_names" (.ref pn) (putF "_hands" (.int n) (putF "_text" (.str t) [])))))
/-- the names, in a tuple that has no dict -/
def NamesAt (H : Hp) (pn : Addr) (js : List Job) : Prop := ∃ ob : Obj, H pn = some (.frz ob (.tup (js.map fun j => V.str j.1))) ∧ ob.cls = .type "tuple" ∧ ob.dict = none
theorem NamesAt.mono {H H' : Hp} {pn : Addr} {js : List Job} (h : NamesAt H pn js) (s : Same H H') : NamesAt H' pn js := by
  obtain ⟨ob, h1, h2⟩ := h
  exact ⟨ob, s _ _ h1, h2⟩
theorem names_strs (js : List Job) : (js.map fun j => V.str j.1) = (js.map (·.1)).map V.str := by rw [List.map_map]; rfl
theorem NamesAt.seq {K : PySem.W.Frag} {H : Hp} {pn : Addr} {js : List Job} (h : NamesAt H pn js) : SqT K H pn ((js.map (·.1)).map V.str) := by
  obtain ⟨ob, h1, h2⟩ := h
  rw [names_strs] at h1
  exact .inl (.inr ⟨ob, h1⟩)
theorem NamesAt.dp {K : PySem.W.Frag} {H : Hp} {pn : Addr} {js : List Job} (h : NamesAt H pn js) : Dp K H (.ref pn) (.tuple (namesD js)) := by
  have ew : namesD js = (js.map (·.1)).map PyData.str := by unfold namesD; rw [List.map_map]; rfl
  rw [ew]
  exact .tup h.seq (DpAll.strs _)
structure LotAt (K : PySem.W.Frag) (C : Addr) (H : Hp) (a : Addr) (n : Nat) (js : List Job) : Prop where
  ex : ∃ dx pn ps pt, H a = some (.ins C dx (lotF (pageS n js) n pn ps (spanN js) pt)) ∧ NamesAt H pn js ∧ Dp K H (.ref ps) (.tuple (sharesD js)) ∧ Dp K H (.ref pt) (partD (totTop js) (totBot js))
theorem LotAt.mono {K : PySem.W.Frag} {C : Addr} {H H' : Hp} {a : Addr} {n : Nat} {js : List Job} (L : LotAt K C H a n js) (s : Same H H') : LotAt K C H' a n js := by
  obtain ⟨dx, pn, ps, pt, h1, h2, h3, h4⟩ := L.ex
  exact ⟨dx, pn, ps, pt, s _ _ h1, h2.mono s, h3.mono s, h4.mono s⟩
def spInit (K : PySem.W.Frag) (C : Addr) : Sp := fun vs H Q _ => ∃ (a dx : Addr) (n : Nat) (js : List Job), vs = [.ref a, .str (pageS n js)] ∧ H a = some (.ins C dx []) ∧ 1 ≤ n ∧ n ≤ 6 ∧ Good 16 js ∧ 0 < js.length ∧ js.length ≤ 6 ∧
  ∀ H', But a H H' → LotAt K C H' a n js → Q .non H'
/-! ## texts read back -/
theorem num_okI {z : Int} (h0 : 0 ≤ z) (h : z ≤ 1000) : z.natAbs.log2 < 1920 := by
  by_cases e : z.natAbs = 0
  · rw [e]; decide
  · exact Nat.lt_trans ((Nat.log2_lt e).mpr (show z.natAbs < 2 ^ 10 by omega)) (by decide)
theorem numS_inj {m n : Nat} (h : numS m = numS n) : m = n := by
  refine TL.numL_inj ?_
  rw [← numS_tl, ← numS_tl, h]
theorem numS_free {n s : Nat} (h : s < 48 ∨ 57 < s) : s ∉ TL.tl (numS n) := by
  rw [numS_tl]; exact TL.numL_free h
theorem sp_tl : TL.tl (Str.ofString " ") = [32] := by decide
theorem nl_tl : TL.tl nlS = [10] := by decide
theorem sl_tl : TL.tl (Str.ofString "/") = [47] := by decide
theorem tag_free {t : Str} (h : IsTag t) {s : Nat} (hs : s < 97) : s ∉ TL.tl t := fun m => by
  have := h.2.2 s m
  omega
theorem join_two (y a b : Str) : Txt.join y [a, b] = a ++ y ++ b := by
  rw [TL.join_eq]; rfl
theorem join_three (y a b c : Str) : Txt.join y [a, b, c] = a ++ y ++ (b ++ y ++ c) := by
  rw [TL.join_eq]; rfl
theorem hands_eq (n : Nat) : handsS n = Txt.join (Str.ofString " ") [Str.ofString "hands", numS n] := by
  rw [join_two]
  refine TL.ext_tl ?_
  unfold handsS
  rw [TL.tl_append, TL.tl_append, TL.tl_append]
  have e : TL.tl (Str.ofString "hands ") = TL.tl (Str.ofString "hands") ++ TL.tl (Str.ofString " ") := by decide
  rw [e]
theorem row_eq (j : Job) : rowS j = Txt.join (Str.ofString " ") [Str.ofString "work", j.1, Txt.join (Str.ofString "/") [numS j.2.1, numS j.2.2]] := by
  rw [join_three, join_two]
  refine TL.ext_tl ?_
  unfold rowS
  simp only [TL.tl_append, List.append_assoc]
  have e : TL.tl (Str.ofString "work ") = TL.tl (Str.ofString "work") ++ TL.tl (Str.ofString " ") := by decide
  rw [e, List.append_assoc]
theorem hands_split (n : Nat) : Txt.split (handsS n) (Str.ofString " ") = [Str.ofString "hands", numS n] := by
  rw [hands_eq]
  refine TL.split_join sp_tl (by decide +kernel) (by simp) fun p hp => ?_
  simp only [List.mem_cons, List.not_mem_nil, or_false] at hp
  rcases hp with rfl | rfl
  · decide
  · exact numS_free (by decide)
theorem part_split (e p : Nat) : Txt.split (Txt.join (Str.ofString "/") [numS e, numS p]) (Str.ofString "/") = [numS e, numS p] := by
  refine TL.split_join sl_tl (by decide +kernel) (by simp) fun q hq => ?_
  simp only [List.mem_cons, List.not_mem_nil, or_false] at hq
  rcases hq with rfl | rfl
  · exact numS_free (by decide)
  · exact numS_free (by decide)
theorem row_split {j : Job} (h : IsTag j.1) : Txt.split (rowS j) (Str.ofString " ") = [Str.ofString "work", j.1, Txt.join (Str.ofString "/") [numS j.2.1, numS j.2.2]] := by
  rw [row_eq]
  refine TL.split_join sp_tl (by decide +kernel) (by simp) fun q hq => ?_
  simp only [List.mem_cons, List.not_mem_nil, or_false] at hq
  rcases hq with rfl | rfl | rfl
  · decide
  · exact tag_free h (by decide)
  · rw [join_two, TL.tl_append, TL.tl_append]
    simp only [List.mem_append, not_or]
    exact ⟨⟨numS_free (by decide), by decide⟩, numS_free (by decide)⟩
theorem page_split {n : Nat} {js : List Job} (h : ∀ j ∈ js, IsTag j.1) : Txt.split (pageS n js) nlS = rowsOf n js := by
  unfold pageS
  refine TL.split_join nl_tl (by decide +kernel) (by unfold rowsOf; simp) fun q hq => ?_
  rcases List.mem_cons.mp hq with rfl | hq
  · unfold handsS
    rw [TL.tl_append]
    simp only [List.mem_append, not_or]
    exact ⟨by decide, numS_free (by decide)⟩
  · obtain ⟨j, hj, rfl⟩ := List.mem_map.mp hq
    unfold rowS
    simp only [TL.tl_append, List.mem_append, not_or]
    exact ⟨⟨⟨⟨⟨by decide, tag_free (h j hj) (by decide)⟩, by decide⟩, numS_free (by decide)⟩, by decide⟩, numS_free (by decide)⟩
/-! ## the class -/
theorem lot_hands {t : Str} {n sp : Int} {pn ps pt : Addr} : (lotF t n pn ps sp pt).lookup ("_hands" : Str) = some (.int n) := by
  unfold lotF; repeat (first | rw [lookup_putF, if_pos rfl] | rw [lookup_putF, if_neg (by decide +kernel)])
theorem lot_shares {t : Str} {n sp : Int} {pn ps pt : Addr} : (lotF t n pn ps sp pt).lookup ("_shares" : Str) = some (.ref ps) := by
  unfold lotF; repeat (first | rw [lookup_putF, if_pos rfl] | rw [lookup_putF, if_neg (by decide +kernel)])
theorem lot_span {t : Str} {n sp : Int} {pn ps pt : Addr} : (lotF t n pn ps sp pt).lookup ("_span" : Str) = some (.int sp) := by
  unfold lotF; repeat (first | rw [lookup_putF, if_pos rfl] | rw [lookup_putF, if_neg (by decide +kernel)])
theorem putF_len (f : Str) (v : V) : ∀ fs : List (Str × V), (putF f v fs).length ≤ fs.length + 1
  | [] => Nat.le_refl _
  | (g, u) :: r => by
    unfold putF
    split
    · exact Nat.le_succ _
    · exact Nat.succ_le_succ (putF_len f v r)
/-- what the written part tells of the class at C -/
structure LotC (K : PySem.W.Frag) (mg : Str → Option Value) (C : Addr) : Prop where
  cl : Cls K C
  n1 : NoAttr K C "_text"
  n2 : NoAttr K C "_hands"
  n3 : NoAttr K C "_names"
  n4 : NoAttr K C "_shares"
  n5 : NoAttr K C "_span"
  n6 : NoAttr K C "_total"
  mgC : mg "Lot" = some (.ref C)
theorem joinL_len (S : List Nat) : ∀ ps : List (List Nat), (TL.joinL S ps).length ≤ (ps.map (·.length)).sum + ps.length * S.length
  | [] => Nat.zero_le _
  | [p] => by
    show p.length ≤ (p.length + 0) + 1 * S.length
    omega
  | p :: q :: r => by
    have ih := joinL_len S (q :: r)
    show (p ++ (S ++ TL.joinL S (q :: r))).length ≤ (p.length + ((q :: r).map (·.length)).sum) + ((q :: r).length + 1) * S.length
    rw [List.length_append, List.length_append, Nat.add_mul]
    omega
theorem rows_sum {js : List Job} (h : ∀ j ∈ js, (rowS j).length ≤ 23) : ((js.map rowS).map (·.length)).sum ≤ 23 * js.length := by
  induction js with
  | nil => exact Nat.le_refl _
  | cons j js ih =>
    have h1 := h j List.mem_cons_self
    have h2 := ih fun y hy => h y (List.mem_cons_of_mem _ hy)
    show (rowS j).length + ((js.map rowS).map (·.length)).sum ≤ 23 * (js.length + 1)
    omega
theorem page_len {n : Nat} {js : List Job} (hn : n ≤ 1000) (G : Good 1000 js) (hl : js.length ≤ 20) : (pageS n js).length + 2 ≤ 1000 := by
  unfold pageS
  rw [TL.join_eq, TL.len_tl, TL.tl_join, nl_tl]
  have a := joinL_len [10] ((rowsOf n js).map TL.tl)
  have e : ((rowsOf n js).map TL.tl).map (·.length) = (rowsOf n js).map (·.length) := by
    rw [List.map_map]
    exact List.map_congr_left fun x _ => (TL.len_tl x).symm
  rw [e] at a
  have b := rows_sum fun j hj => rowS_len (G.tag j hj) (G.part j hj)
  have c : (handsS n).length ≤ 10 := by
    have l6 : (Str.ofString "hands ").length = 6 := by decide
    have := numS_len hn
    unfold handsS; rw [Str.length_append, l6]; omega
  have d : ((rowsOf n js).map (·.length)).sum = (handsS n).length + ((js.map rowS).map (·.length)).sum := rfl
  have f : ((rowsOf n js).map TL.tl).length = js.length + 1 := by unfold rowsOf; rw [List.length_map, List.length_cons, List.length_map]
  rw [d, f] at a
  simp only [List.length_cons, List.length_nil] at a
  omega
end Ts
namespace Ts
open PySem PySem.Spec PyProof.Rows L2
/-! ## properties, objects made, names given -/
section
variable (P : Program) (w : World) (K : PySem.W.Frag) (mg : Str → Option Value) (base : Heap)
/-- the class at C gives under the name x what stands in the field fld -/
structure PropH (C : Addr) (x fld : Str) : Prop where
  ex : ∃ p g fd, PropOf K C x p g ∧ FnOk P w K mg base CX0 1 g fd ["self"] (getSp C fld) ∧ Binds K fd ["self"] []
/-- an own class by the promise of its __init__ -/
structure HasM (k : Nat) (C : Addr) (ps : List Str) (sp : Sp) : Prop where
  ex : ∃ f fd, Mk K C f ∧ FnOk P w K mg base CX0 k f fd ps sp ∧ Binds K fd ps []
end
section
variable {X : Cx} {k : Nat} {x fld : Str} {C : Addr} {ps : List Str} {sp : Sp} {p pos : Pos} {e : Expr} {es : List Expr} {kws : List Keyword} {t tk : TA} {ta : TE}
theorem pe_ph (h : PropH X.prog X.w X.K X.mg X.base C x fld) (c : Cls X.K C) (hr : Room 2 X.A) (he : PE X e ta) (hab : attributeBase e x X.env (eval e X.env) = eval e X.env := by rfl) :
    PE X (.Attribute e x pos) (tProp C (getSp C fld) [] E0 ta) := by
  obtain ⟨p, g, fd, hp, F, hb⟩ := h.ex
  exact pe_prop he c hp F hr hb .nil pass0 hab
theorem pe_hm (h : HasM X.prog X.w X.K X.mg X.base k C ps sp) (hm : X.mg x = some (.ref C)) (hr : Room (k + 1) X.A) (ha : PA X (e :: es) t) (hg : Gl X x := by rfl) (hdb : (x == ("__debug__" : Str)) = false := by decide)
    (he : starEach (e :: es) X.env = (false, eval e X.env) :: starEach es X.env := by rfl) (hpl : (backTo pos (starEach es X.env)).any (·.1) = false := by rfl) :
    PE X (.Call (.Name x p) (e :: es) [] pos) (tMake C sp [] E0 t) := by
  obtain ⟨f, fd, M, F, hb⟩ := h.ex
  exact pe_make M F hr hg hm hb .nil pass0 ha hdb he hpl
end
/-! ## lots -/
/-- what isinstance asks of the class -/
structure LotI (K : PySem.W.Frag) (C : Addr) : Prop where
  ha : PySem.W.findIn K (.ref C) "__class__" = some (some (.builtin "object.__class__"))
  hn : PySem.W.specialIn K (.builtin "object.__class__") "__get__" = some (some (.builtin "getset_descriptor.__get__"))
  htk : PySem.W.takesIn K (.builtin "object.__class__") = some true
  hm : PySem.W.mroIn K C (.type "object") = some true
theorem kit_self {K : PySem.W.Frag} {C : Addr} : PySem.W.kitOne K (.ref C) (.ref C) = some true := by
  unfold PySem.W.kitOne
  rw [if_pos (by simp)]
theorem pe_gref {X : Cx} {x : Str} {C : Addr} {pos : Pos} (h : X.mg x = some (.ref C)) (hg : Gl X x := by rfl) (hd : (x == ("__debug__" : Str)) = false := by decide) : PE X (.Name x pos) (tC (.ref C)) :=
  pe_glob (v := V.ref C) hg h rfl hd
theorem bot_le {js : List Job} (g : Good 16 js) : totBot js ≤ 720720 := Nat.le_trans (Nat.div_le_self _ _) (span_le g)
/-- a property's reading at a lot -/
theorem lot_get {C a : Addr} {H : Hp} {fld : Str} {dx : Addr} {fs : List (Str × V)} {v : V} {Q : VK} (h : H a = some (.ins C dx fs)) (l : fs.lookup fld = some v) (q : Q v H) :
    ∃ a' dx fs, V.ref a = .ref a' ∧ H a' = some (.ins C dx fs) ∧ getSp C fld [.ref a'] H Q E0 :=
  ⟨a, dx, fs, rfl, h, a, dx, fs, v, rfl, h, l, q⟩
end Ts
namespace Ts
open PySem PySem.Spec PyProof.Rows L2
def spCheck (C : Addr) : Sp := fun vs H Q _ => ∃ (a dx : Addr) (fs : List (Str × V)), vs = [.ref a] ∧ H a = some (.ins C dx fs) ∧ Q .non H
end Ts
namespace Ts
open PySem PySem.Spec PyProof.Rows L2
/-! ## what the laws reckon -/
theorem Good.take {d i : Nat} {js : List Job} (G : Good d js) : Good d (js.take i) :=
  ⟨by rw [List.map_take]; exact G.nd.sublist (List.take_sublist _ _), fun k hk => G.tag k (List.mem_of_mem_take hk), fun k hk => G.part k (List.mem_of_mem_take hk)⟩
theorem span_of_all_go : ∀ (js : List Job) (s k : Nat), s ∣ k → (∀ j ∈ js, j.2.2 ∣ k) → js.foldl (fun s j => Nat.lcm s j.2.2) s ∣ k
  | [], s, k, h, _ => h
  | j :: js, s, k, h, g => span_of_all_go js _ k (Nat.lcm_dvd h (g j List.mem_cons_self)) fun x hx => g x (List.mem_cons_of_mem _ hx)
theorem span_of_all {js : List Job} {k : Nat} (h : ∀ j ∈ js, j.2.2 ∣ k) : spanN js ∣ k := span_of_all_go js 1 k (Nat.one_dvd _) h
/-- the sum in parts of a great common bottom -/
def bigN (js : List Job) : Nat := (js.map fun j => j.2.1 * (720720 / j.2.2)).sum
theorem big_parts {js : List Job} (G : Good 16 js) : bigN js = partsN js (spanN js) * (720720 / spanN js) := by
  have key : ∀ l : List Job, (∀ j ∈ l, j ∈ js) → (l.map fun j => j.2.1 * (720720 / j.2.2)).sum = (l.map fun j => j.2.1 * (spanN js / j.2.2)).sum * (720720 / spanN js) := by
    intro l
    induction l with
    | nil => intro _; simp
    | cons j l ih =>
      intro h
      have hj := h j List.mem_cons_self
      obtain ⟨a, b, c, _⟩ := G.part j hj
      have d1 := dvd_span hj
      have d2 := span_dvd G
      rw [List.map_cons, List.map_cons, List.sum_cons, List.sum_cons, ih fun x hx => h x (List.mem_cons_of_mem _ hx), Nat.add_mul, Nat.mul_assoc]
      congr 2
      obtain ⟨u, hu⟩ := d1
      obtain ⟨v, hv⟩ := d2
      have hp : 0 < j.2.2 := by omega
      have hs : 0 < spanN js := span_pos G
      have e1 : spanN js / j.2.2 = u := by rw [hu, Nat.mul_div_cancel_left _ hp]
      have e2 : 720720 / spanN js = v := by rw [hv, Nat.mul_div_cancel_left _ hs]
      have e3 : 720720 / j.2.2 = u * v := by
        rw [hv, hu, Nat.mul_assoc, Nat.mul_div_cancel_left _ hp]
      rw [e1, e2, e3]
  exact key js fun _ h => h
theorem big_low {js : List Job} (G : Good 16 js) : bigN js / Nat.gcd (bigN js) 720720 = totTop js ∧ 720720 / Nat.gcd (bigN js) 720720 = totBot js := by
  have d2 := span_dvd G
  have hs := span_pos G
  have hk : 0 < 720720 / spanN js := Nat.div_pos (span_le G) hs
  have eN : 720720 = spanN js * (720720 / spanN js) := (Nat.mul_div_cancel' d2).symm
  have e := big_parts G
  have eg : Nat.gcd (bigN js) 720720 = Nat.gcd (partsN js (spanN js)) (spanN js) * (720720 / spanN js) := by
    rw [e]
    conv => lhs; rhs; rw [eN]
    exact Nat.gcd_mul_right _ _ _
  rw [eg]
  refine ⟨?_, ?_⟩
  · rw [e]; exact Nat.mul_div_mul_right _ _ hk
  · conv => lhs; lhs; rw [eN]
    exact Nat.mul_div_mul_right _ _ hk
theorem big_le {js : List Job} (G : Good 16 js) (hl : js.length ≤ 6) : bigN js ≤ 6 * 720720 := by
  have key : ∀ l : List Job, (∀ j ∈ l, j ∈ js) → (l.map fun j => j.2.1 * (720720 / j.2.2)).sum ≤ l.length * 720720 := by
    intro l
    induction l with
    | nil => intro _; exact Nat.le_refl _
    | cons j l ih =>
      intro h
      obtain ⟨a, b, c, _⟩ := G.part j (h j List.mem_cons_self)
      have h1 := ih fun x hx => h x (List.mem_cons_of_mem _ hx)
      have h2 : j.2.1 * (720720 / j.2.2) ≤ 720720 := Nat.le_trans (Nat.mul_le_mul_right _ b) (Nat.mul_div_le _ _)
      rw [List.map_cons, List.sum_cons, List.length_cons]
      omega
  exact Nat.le_trans (key js fun _ h => h) (Nat.mul_le_mul_right _ hl)
theorem top_le {js : List Job} (G : Good 16 js) (hl : js.length ≤ 6) : totTop js ≤ 6 * 720720 := by
  rw [← (big_low G).1]
  exact Nat.le_trans (Nat.div_le_self _ _) (big_le G hl)
/-! ## going up to the least common one -/
/-- what the law asks of one basin -/
def spRight : Sp := fun vs H Q _ => ∃ (b : Addr), vs = [.ref b] ∧ Bas H b ∧ ∀ H', But b H H' → Q (.bl true) H'
def spLaw (K : PySem.W.Frag) : Sp := fun vs H Q _ => ∃ (a : Addr) (ns : List Int), vs = [.ref a] ∧ SqL K H a (ns.map V.int) ∧ ns.length ≤ 63 ∧ ∀ H', Q (.bl true) H'
/-! ## how long a text is -/
theorem shown_int {n : Nat} (h : n < 10 ^ 10) : (PyData.int (n : Int)).shown.length ≤ 10 := by
  show (numS n).length ≤ 10
  rw [TL.len_tl, numS_tl]
  exact TL.numL_len (by decide) h
theorem show_int {n : Nat} (h : n < 10 ^ 10) : (PyData.int (n : Int)).showable = true := by
  show decide (((n : Nat) : Int).natAbs.log2 < 1920) = true
  refine decide_eq_true ?_
  have e : ((n : Nat) : Int).natAbs = n := by simp
  rw [e]
  by_cases z : n = 0
  · subst z; decide
  · exact Nat.lt_trans ((Nat.log2_lt z).mpr (show n < 2 ^ 40 from Nat.lt_trans h (by decide))) (by decide)
/-! ## what does not divide -/
theorem shaped_nil : SeqAt.shaped (.list []) = true := by decide
theorem hu100 {A : Around} {k : Nat} (hr : Room k A) : A.units + 100 < cLine := by have := hr.un; omega
theorem hu64 {A : Around} {k : Nat} (hr : Room k A) : A.units + 64 < cLine := by have := hr.un; omega
end Ts
namespace Ts
open PySem PySem.Spec PyProof.Rows L2
/-! ## the law is called, no repr around -/
/-- of the heap nothing is told but the script -/
def tells (yes : Bool) (a : Addr) (vs : List Value) (ns : List Int) : Hp := fun c =>
  if c = a then (if yes = true then some (.frz { cls := .type "list", data := .seq vs.toArray } (.lst (ns.map V.int))) else none) else none
theorem tells_at {yes : Bool} {a : Addr} {vs : List Value} {ns : List Int} {c : Addr} {u : HO} (h : tells yes a vs ns c = some u) :
    c = a ∧ yes = true ∧ u = .frz { cls := .type "list", data := .seq vs.toArray } (.lst (ns.map V.int)) := by
  unfold tells at h
  split at h
  · split at h
    · exact ⟨by assumption, by assumption, (Option.some.inj h).symm⟩
    · cases h
  · cases h
theorem end_G {P : Program} {w : World} {K : PySem.W.Frag} {mg mb : Str → Option Value} {k : Nat} {fa a : Addr} {fd : FuncData} {x : Str} {sp : Sp} {t : Shared} {vs : List Value} {ns : List Int}
    (inK : K.In t.heap) (nsM : t.heap.Ns mainGlobals mg) (nsB : t.heap.Ns builtinsNs mb) (boot : ∀ y : Str, y ≠ "__name__" → mb y = bootBuiltins y) (lim : t.heap.NoLimit) (gens : t.gens = #[])
    (at_ : t.heap.get? a = some { cls := .type "list", data := .seq vs.toArray }) (allInt : IntsAre vs ns) (few : ns.length ≤ sizeLine) (room : Room k callerA)
    (G : ∀ base : Heap, K.In base → base.Ns mainGlobals mg → FnG P w K mg base k fa fd [x] sp) (bind : ∀ (s : Shared) (u : Value), BindsTo s fd ⟨[u], []⟩ [(x, u)])
    (good : ∀ H : Hp, SqL K H a (ns.map V.int) → sp [.ref a] H (fun v _ => v = .bl true) E0) :
    codeAny (model P w) callerA (.call (.ref fa) ⟨[.ref a], []⟩) (fun r z => r = .ok (.ret (.bool true)) ∧ OldK t.heap z.heap ∧ z.os = t.os ∧ AllBare z.gens) t := by
  have vals := vals_ints allInt
  -- what is told
  generalize hy : (K.lookup a).isNone = yes
  have H0 : ∃ H, H = tells yes a vs ns := ⟨_, rfl⟩
  obtain ⟨H, eH⟩ := H0
  have told : ∀ {c : Addr} {u : HO}, H c = some u → c = a ∧ yes = true ∧ u = .frz { cls := .type "list", data := .seq vs.toArray } (.lst (ns.map V.int)) := fun h => tells_at (by rw [← eH]; exact h)
  have okH : HOk P w H t.heap := fun c u h => by
    obtain ⟨rfl, _, rfl⟩ := told h
    exact ⟨at_, by rw [List.length_map]; exact few, vs, _, vals, at_⟩
  have seqH : SqL K H a (ns.map V.int) := by
    cases e : K.lookup a with
    | none =>
      have yt : yes = true := by rw [← hy, e]; rfl
      refine .inl (.inr ⟨{ cls := .type "list", data := .seq vs.toArray }, ?_⟩)
      rw [eH]; unfold tells
      rw [if_pos rfl, if_pos yt]
    | some o =>
      have eo := inK a o e
      rw [at_] at eo
      cases eo
      exact .inr ⟨_, vs.toArray, _, e, rfl, rfl, rfl, by rw [List.size_toArray, allInt.length]; exact few, by simpa using vals⟩
  -- the heap without it
  have still : ∀ {c : Addr} {o : Obj}, t.heap.get? c = some o → H c = none → (hidT t.heap H).get? c = some o := fun e n => hidT_get e n
  have dicts : ∀ {c : Addr} {m : Str → Option Value}, t.heap.Ns c m → (hidT t.heap H).Ns c m := by
    rintro c m ⟨o, es, ep, e, d, r⟩
    refine ⟨o, es, ep, still e ?_, d, r⟩
    cases hc : H c with
    | none => rfl
    | some u =>
      obtain ⟨rfl, _, _⟩ := told hc
      rw [at_] at e
      cases e
      exact nomatch (show Data.seq vs.toArray _ = Data.dict es ep from d)
  have kept : K.In (hidT t.heap H) := fun c o e => still (inK c o e) (by
    cases hc : H c with
    | none => rfl
    | some u =>
      obtain ⟨rfl, h2, _⟩ := told hc
      rw [← hy, e] at h2; cases h2)
  have limits : (hidT t.heap H).NoLimit := by
    obtain ⟨mc, h1, h2⟩ := lim
    exact ⟨mc, dicts h1, h2⟩
  have start0 : Env0 P w K mg (hidT t.heap H) callerA [] t H :=
    { frames := rfl, mod := ⟨kept, dicts nsM, ⟨mb, dicts nsB, boot⟩, limits⟩, bs := fun c o e => of_hidT e, bsz := Nat.le_of_eq (hidT_size _ _), funs := trivial, frf := fun c hc => absurd (show c ∈ ([] : List Addr) from hc) (by simp), hok := okH, bare := .of_eq gens }
  refine codeAny_mono ((G _ kept (dicts nsM)).go callerA [] t H [.ref a] [.ref a] _ rfl room start0 (bind t (.ref a)) (.cons rfl .nil) (good H seqH)) fun r z h => ?_
  cases r with
  | error e => exact h.elim
  | ok fl => cases fl with
    | next => exact h.elim
    | brk => exact h.elim
    | cont => exact h.elim
    | ret u =>
      obtain ⟨v, H2, g1, g2, un, ok2, rv, ev⟩ := h
      have ev2 : v = .bl true := ev
      subst ev2
      obtain rfl : u = Value.bool true := rv
      refine ⟨rfl, OldK.of_keep fun c o e => ?_, g1, g2⟩
      cases hc : H c with
      | none => exact un.keep c o e hc (fun m => absurd (show c ∈ ([] : List Addr) from m) (by simp)) (by simp)
      | some u =>
        obtain ⟨rfl, _, rfl⟩ := told hc
        obtain ⟨e2, _⟩ := ok2 _ _ (un.frzs _ _ _ hc)
        rw [at_] at e
        rw [← Option.some.inj e]
        exact e2
end Ts
namespace Ts
open PySem PySem.Spec PyProof.Rows L2
/-! ## what the top has left -/
theorem prop_mk {P : Program} {w : World} {K : PySem.W.Frag} {mg : Str → Option Value} {base : Heap} {x qual fld : Str} {st : Stmt} {C p g : Addr} {fd : FuncData} {p1 p2 p3 : Pos} (F : Fun K x qual st g fd) (S : FnScope ["self"] ["self"] (defScope st))
    (body : defBody st = [.Return (some (.Attribute (.Name "self" p1) fld p2)) p3]) (c : Cls K C) (n : NoAttr K C fld) (pp : PropOf K C x p g)
    (hb : ∀ (kV doc pm : Value) (an : Option Addr) (cdv ct : Value) (us : List Value), us.length = 1 → bindArgs (PySem.W.fnOf x qual (defArgs st) (defBody st) (defScope st) .none kV doc pm an cdv ct) ⟨us, []⟩ = pure ((["self"] : List Str).zip us)) :
    PropH P w K mg base C x fld := by
  have bb := F.binds (ps := ["self"]) hb
  obtain ⟨oc, od, kV, doc, pm, an, cdv, ct, osl, rfl, lk, hcd⟩ := F.ex
  exact ⟨p, g, _, pp, fn_getter (k := 0) lk hcd S rfl body c n, bb⟩
end Ts
namespace Ts
open PySem PySem.Spec PyProof.Rows L2
/-! ## turns -/
def begI (e p : Nat) (t : Int) : Int := (t - 1) * p / e
def borI (e p : Nat) (t : Int) : Int := (t * p + e - 1) / e
def overI (e p : Nat) (t : Int) : Bool := decide (borI e p t > begI e p (t + 1))
/-- the two numbers of a share -/
theorem part_at {K : PySem.W.Frag} {H : Hp} {v : V} {e p : Nat} (h : Dp K H v (partD e p)) : ∃ a, v = .ref a ∧ SqT K H a [.int (e : Int), .int (p : Int)] := by
  obtain ⟨a, xs, rfl, hS, hA⟩ := h.tuple
  obtain ⟨v, u, rfl, g1, g2⟩ := hA.two
  cases g1.int_eq
  cases g2.int_eq
  exact ⟨a, rfl, hS⟩
end Ts
namespace Ts
open PySem PySem.Spec PyProof.Rows L2
/-! ## names given in another order -/
structure HasQ (P : Program) (w : World) (K : PySem.W.Frag) (mg : Str → Option Value) (base : Heap) (k : Nat) (x : Str) (ps ks : List Str) (turned : {α : Type} → List α → List α) (sp : Sp) : Prop where
  ex : ∃ f fd, FnOk P w K mg base CX0 k f fd ps sp ∧ mg x = some (.ref f) ∧ PySem.W.keepIn K (.ref f) = true ∧ ∀ (s : Shared) (ws : List Value), ws.length = ks.length → BindsTo s fd ⟨[], ks.zip ws⟩ (ps.zip (turned ws))
  rel : ∀ {vs : List V} {us : List Value}, Vals vs us → Vals (turned vs) (turned us)
theorem DefAt.hasQ {P : Program} {w : World} {K : PySem.W.Frag} {mg : Str → Option Value} {base : Heap} {x : Str} {st : Stmt} {k : Nat} {ps : List Str} {sp : Sp} (D : DefAt K mg x st) (ks : List Str) (turned : {α : Type} → List α → List α)
    (rel : ∀ {vs : List V} {us : List Value}, Vals vs us → Vals (turned vs) (turned us))
    (hb : ∀ (kV doc pm : Value) (an : Option Addr) (cdv ct : Value) (ws : List Value), ws.length = ks.length → bindArgs (PySem.W.fnOf x x (defArgs st) (defBody st) (defScope st) .none kV doc pm an cdv ct) ⟨[], ks.zip ws⟩ = pure (ps.zip (turned ws)))
    (ok : ∀ f fd, Fun K x x st f fd → FnOk P w K mg base CX0 k f fd ps sp) : HasQ P w K mg base k x ps ks turned sp := by
  obtain ⟨f, fd, F, hm⟩ := D.ex
  refine ⟨⟨f, fd, ok f fd F, hm, F.kp, fun s ws hl => ?_⟩, rel⟩
  obtain ⟨oc, od, kV, doc, pm, an, cdv, ct, osl, rfl, lk, hcd⟩ := F.ex
  exact .of_eq (hb kV doc pm an cdv ct ws hl)
def tCallQ (sp : Sp) (m : Nat) (turned : List V → List V) (tk : TA) : TE := fun σ H Q => tk σ H fun zs H2 => zs.length = m ∧ sp (turned zs) H2 Q E0
theorem pe_hq {X : Cx} {k : Nat} {x : Str} {ps ks : List Str} {turned : {α : Type} → List α → List α} {sp : Sp} {p pos : Pos} {kws : List Keyword} {tk : TA} (h : HasQ X.prog X.w X.K X.mg X.base k x ps ks turned sp) (hr : Room k X.A) (hkw : PK X kws tk) (hg : Gl X x := by rfl)
    (hdb : (x == ("__debug__" : Str)) = false := by decide) (hall : (backToKw pos (keywordEach kws X.env)).all (·.1.isSome) = true := by rfl) (hks : (backToKw pos (keywordEach kws X.env)).filterMap (·.1) = ks := by rfl)
    (hpl : ((backTo pos (starEach [] X.env)).any (·.1) || (backToKw pos (keywordEach kws X.env)).any (·.1.isNone)) = false := by rfl) :
    PE X (.Call (.Name x p) [] kws pos) (tCallQ sp ks.length turned tk) := by
  obtain ⟨f, fd, F, hm, hk, hb⟩ := h.ex
  refine ⟨fun pins s σ H Q I q0 => ?_⟩
  refine wpAny_Call_Name_kw (ld_glob I hg hm ?_ hdb)
  refine PySem.W.callWith_KW0 (h₀ := X.base) I.ok.mod.kin hk hall ?_ hpl
  refine thn (hkw.run pos pins s σ H _ I q0) fun ws s2 ⟨zs, H2, I2, rz, l2, q2⟩ => ⟨I2.kIn, ?_⟩
  rw [hks]
  have lw : ws.length = ks.length := by rw [← rz.length]; exact l2
  refine wpAny_call (codeAny_mono (F.run X.A X.stack s2 H2 ⟨[], ks.zip ws⟩ (turned ws) (turned zs) Q E0 hr I2.env0 (hb s2 ws lw) (h.rel rz) q2) fun r s' hq => ?_)
  cases r with
  | error er => exact hq.elim
  | ok fl => cases fl with
    | ret u => exact I2.after hq
    | next => exact hq.elim
    | brk => exact hq.elim
    | cont => exact hq.elim
/-- from behind -/
def back {α : Type} (l : List α) : List α := l.reverse
theorem vals_back : ∀ {vs : List V} {us : List Value}, Vals vs us → Vals (back vs) (back us)
  | _, _, .nil => .nil
  | _, _, .cons r h => by
    unfold back
    rw [List.reverse_cons, List.reverse_cons]
    exact (vals_back h).append (.cons r .nil)
end Ts
namespace Ts
open PySem PySem.Spec PyProof.Rows L2
/-! ## ticks of a turn -/
theorem div_le_iff {a t : Int} {e : Nat} (he : 0 < e) : a / (e : Int) ≤ t ↔ a < (t + 1) * e := by
  constructor
  · intro h
    exact Int.lt_of_lt_of_le (Int.lt_ediv_add_one_mul_self a (by omega)) (Int.mul_le_mul_of_nonneg_right (by omega) (by omega))
  · intro h
    have := Int.ediv_lt_of_lt_mul (show (0 : Int) < e by omega) h
    omega
theorem lt_up_iff {a t : Int} {e : Nat} (he : 0 < e) : t < (a + e - 1) / (e : Int) ↔ t * e < a := by
  have h := div_le_iff (a := a + e - 1) (t := t) he
  rw [Int.add_mul, Int.one_mul] at h
  constructor
  · intro q
    have : ¬ (a + e - 1) / (e : Int) ≤ t := by omega
    rw [h] at this
    omega
  · intro q
    have : ¬ (a + e - 1) / (e : Int) ≤ t := by rw [h]; omega
    omega
/-! ## what the law's own look answers -/
/-! ## lists of ints as data -/
/-! ## texts of lists of ints and truths -/
theorem int_small {i : Int} (h0 : 0 ≤ i) (h1 : i < 10000000000) : (PyData.int i).showable = true ∧ (PyData.int i).shown.length ≤ 10 := by
  obtain ⟨n, rfl⟩ := Int.eq_ofNat_of_zero_le h0
  have hn : n < 10 ^ 10 := by omega
  exact ⟨show_int hn, shown_int hn⟩
/-! ## what a basin's change leaves -/
theorem seqT_hide {K : PySem.W.Frag} {H : Hp} {a b : Addr} {l xs : List V} (hb : H b = some (.lst l)) (h : SqT K H a xs) : SqT K (hid b H) a xs := by
  have ne : ∀ u, H a = some u → u ≠ HO.lst l → a ≠ b := fun u e d z => by rw [z, hb] at e; exact d (Option.some.inj e).symm
  rcases h with (h | ⟨ob, h⟩) | h
  · exact .inl (.inl ((hid_ne (ne _ h fun z => nomatch z)).trans h))
  · exact .inl (.inr ⟨ob, (hid_ne (ne _ h fun z => nomatch z)).trans h⟩)
  · exact .inr h
theorem part_hide {K : PySem.W.Frag} {H : Hp} {b : Addr} {l : List V} {v : V} {e p : Nat} (hb : H b = some (.lst l)) (h : Dp K H v (partD e p)) : Dp K (hid b H) v (partD e p) := by
  obtain ⟨a, rfl, hS⟩ := part_at h
  exact .tup (seqT_hide hb hS) (.cons (.int _) (.cons (.int _) .nil))
theorem shares_hide {K : PySem.W.Frag} {H : Hp} {b : Addr} {l : List V} (hb : H b = some (.lst l)) : ∀ {js : List Job} {vs : List V}, DpAll K H vs (sharesD js) → DpAll K (hid b H) vs (sharesD js)
  | [], _, .nil => .nil
  | j :: js, _, .cons h t => .cons (part_hide hb h) (shares_hide (js := js) hb t)
theorem LotAt.hide {K : PySem.W.Frag} {C : Addr} {H : Hp} {a b : Addr} {l : List V} {n : Nat} {js : List Job} (hb : H b = some (.lst l)) (L : LotAt K C H a n js) : LotAt K C (hid b H) a n js := by
  obtain ⟨dx, pn, ps, pt, h1, ⟨ob, h2, h5⟩, h3, h4⟩ := L.ex
  have ne : ∀ {c : Addr} {u : HO}, H c = some u → u ≠ HO.lst l → c ≠ b := fun {c u} e d z => by rw [z, hb] at e; exact d (Option.some.inj e).symm
  obtain ⟨ps', xs, e, hS, hA⟩ := h3.tuple
  cases e
  refine ⟨dx, pn, ps, pt, ?_, ⟨ob, ?_, h5⟩, .tup (seqT_hide hb hS) (shares_hide hb hA), part_hide hb h4⟩
  · rw [hid_ne (ne h1 fun z => nomatch z)]; exact h1
  · rw [hid_ne (ne h2 fun z => nomatch z)]; exact h2
end Ts
namespace Ts
open PySem PySem.Spec PyProof.Rows L2
/-! ## turns up to a moment -/
def lowI (e p : Nat) (t : Int) : Int := t * e / p
def highI (e p : Nat) (t : Int) : Int := (t * e + p - 1) / p
/-! ## counting turn by turn -/
/-! ## texts of pairs of greater numbers -/
theorem int_big {i : Int} (h0 : 0 ≤ i) (h1 : i < 10 ^ 40) : (PyData.int i).showable = true ∧ (PyData.int i).shown.length ≤ 40 := by
  obtain ⟨n, rfl⟩ := Int.eq_ofNat_of_zero_le h0
  have hn : n < 10 ^ 40 := by
    have : ((n : Nat) : Int) < ((10 ^ 40 : Nat) : Int) := by rw [Int.natCast_pow]; exact h1
    exact Int.ofNat_lt.mp this
  refine ⟨?_, ?_⟩
  · show decide (((n : Nat) : Int).natAbs.log2 < 1920) = true
    refine decide_eq_true ?_
    have e : ((n : Nat) : Int).natAbs = n := by simp
    rw [e]
    by_cases z : n = 0
    · subst z; decide
    · exact Nat.lt_trans ((Nat.log2_lt z).mpr (show n < 2 ^ 140 from Nat.lt_trans hn (by decide +kernel))) (by decide)
  · show (numS n).length ≤ 40
    rw [TL.len_tl, numS_tl]
    exact TL.numL_len (by decide) hn
end Ts
namespace Ts
open PySem PySem.Spec PyProof.Rows L2
/-! ## what a lot shows, as data -/
def Plain (x : Str) : Prop := ∀ c ∈ TL.tl x, c < 128
theorem plain_app {x y : Str} (h : Plain x) (g : Plain y) : Plain (x ++ y) := fun c hc => by
  rw [TL.tl_append] at hc
  exact (List.mem_append.mp hc).elim (h c) (g c)
theorem plain_num (n : Nat) : Plain (numS n) := fun c hc => by
  by_cases z : c < 128
  · exact z
  · exact absurd hc (numS_free (by omega))
theorem plain_tag {t : Str} (h : IsTag t) : Plain t := fun c hc => by
  have := h.2.2 c hc
  omega
theorem mem_joinL {S : List Nat} {c : Nat} : ∀ {ps : List (List Nat)}, c ∈ TL.joinL S ps → c ∈ S ∨ ∃ p ∈ ps, c ∈ p
  | [], h => nomatch h
  | [p], h => .inr ⟨p, List.mem_cons_self, h⟩
  | p :: q :: r, h => by
    have h : c ∈ p ++ (S ++ TL.joinL S (q :: r)) := h
    rcases List.mem_append.mp h with h | h
    · exact .inr ⟨p, List.mem_cons_self, h⟩
    · rcases List.mem_append.mp h with h | h
      · exact .inl h
      · rcases mem_joinL h with h | ⟨u, hu, h⟩
        · exact .inl h
        · exact .inr ⟨u, List.mem_cons_of_mem _ hu, h⟩
theorem plain_row {j : Job} (h : IsTag j.1) : Plain (rowS j) := by
  unfold rowS
  exact plain_app (plain_app (plain_app (plain_app (plain_app (fun c hc => by revert c; decide) (plain_tag h)) (fun c hc => by revert c; decide)) (plain_num _)) (fun c hc => by revert c; decide)) (plain_num _)
theorem plain_hands (n : Nat) : Plain (handsS n) := by
  unfold handsS
  exact plain_app (fun c hc => by revert c; decide) (plain_num _)
theorem plain_page {d n : Nat} {js : List Job} (G : Good d js) : Plain (pageS n js) := fun c hc => by
  unfold pageS at hc
  rw [TL.join_eq, TL.tl_join, nl_tl] at hc
  rcases mem_joinL hc with h | ⟨u, hu, h⟩
  · rw [List.mem_singleton.mp h]; decide
  · obtain ⟨x, hx, rfl⟩ := List.mem_map.mp hu
    unfold rowsOf at hx
    rcases List.mem_cons.mp hx with rfl | hx
    · exact plain_hands n c h
    · obtain ⟨j, hj, rfl⟩ := List.mem_map.mp hx
      exact plain_row (G.tag j hj) c h
def reprS (m n : Nat) : Str := Str.ofString "Lot of " ++ numS m ++ Str.ofString " works, " ++ numS n ++ Str.ofString " hands"
theorem plain_repr (m n : Nat) : Plain (reprS m n) := by
  unfold reprS
  exact plain_app (plain_app (plain_app (plain_app (fun c hc => by revert c; decide) (plain_num _)) (fun c hc => by revert c; decide)) (plain_num _)) (fun c hc => by revert c; decide)
def shownD (n : Nat) (js : List Job) : PyData := .list [.str (pageS n js), .int n, .tuple (namesD js), .tuple (sharesD js), partD (totTop js) (totBot js), .int (spanN js : Int), .str (pageS n js), .bool true, .str (reprS js.length n)]
theorem short_str {x : Str} (h : Plain x) : PyData.leavesShort 13 (.str x) = true := by
  show (x.cps.toList.all fun c => decide (c < 16 ^ 8)) = true
  rw [List.all_eq_true]
  intro c hc
  have := h c hc
  exact decide_eq_true (by omega)
theorem short_int {i : Int} (h0 : 0 ≤ i) (h1 : i < 10000000000) : PyData.leavesShort 13 (.int i) = true := decide_eq_true (Nat.le_trans (int_small h0 h1).2 (by decide))
theorem weight_int {i : Int} (h0 : 0 ≤ i) (h1 : i < 10000000000) : PyData.weight (.int i) ≤ 100 := by
  show (if i == 0 then 0 else i.natAbs.log2 + 1) ≤ 100
  split
  · omega
  · by_cases z : i.natAbs = 0
    · rw [z]; decide
    · have := (Nat.log2_lt z).mpr (show i.natAbs < 2 ^ 40 by omega)
      omega
/-- data that a repr can write -/
structure Nice (w e : Nat) (d : PyData) : Prop where
  sh : d.showable = true
  lv : d.leavesShort 13 = true
  wt : d.weight ≤ w
  dp : d.depth ≤ e
  nd : d.hasDict = false
structure NiceAll (w e : Nat) (ds : List PyData) : Prop where
  sh : PyData.showableAll ds = true
  lv : PyData.leavesShortAll 13 ds = true
  wt : PyData.weightAll ds ≤ w
  dp : PyData.depthAll ds ≤ e
  nd : PyData.hasDictAll ds = false
theorem NiceAll.nil {w e : Nat} : NiceAll w e [] := ⟨rfl, rfl, Nat.zero_le _, Nat.zero_le _, rfl⟩
theorem NiceAll.cons {w w' e : Nat} {d : PyData} {ds : List PyData} (h : Nice w e d) (g : NiceAll w' e ds) : NiceAll (w + 1 + w') e (d :: ds) := by
  refine ⟨?_, ?_, ?_, ?_, ?_⟩
  · show (d.showable && PyData.showableAll ds) = true
    rw [h.sh, g.sh]; rfl
  · show (d.leavesShort 13 && PyData.leavesShortAll 13 ds) = true
    rw [h.lv, g.lv]; rfl
  · have h1 := h.wt
    have h2 := g.wt
    show d.weight + 1 + PyData.weightAll ds ≤ w + 1 + w'
    omega
  · have h1 := h.dp
    have h2 := g.dp
    show max d.depth (PyData.depthAll ds) ≤ e
    omega
  · show (d.hasDict || PyData.hasDictAll ds) = false
    rw [h.nd, g.nd]; rfl
theorem NiceAll.tup {w e : Nat} {ds : List PyData} (g : NiceAll w e ds) : Nice w (e + 1) (.tuple ds) := ⟨g.sh, g.lv, g.wt, Nat.succ_le_succ g.dp, g.nd⟩
theorem NiceAll.lst {w e : Nat} {ds : List PyData} (g : NiceAll w e ds) : Nice w (e + 1) (.list ds) := ⟨g.sh, g.lv, g.wt, Nat.succ_le_succ g.dp, g.nd⟩
theorem Nice.mono {w w' e e' : Nat} {d : PyData} (h : Nice w e d) (h1 : w ≤ w') (h2 : e ≤ e') : Nice w' e' d := ⟨h.sh, h.lv, Nat.le_trans h.wt h1, Nat.le_trans h.dp h2, h.nd⟩
theorem nice_str {w e : Nat} {x : Str} (h : Plain x) (hw : x.length ≤ w) : Nice w e (.str x) := ⟨rfl, short_str h, hw, Nat.zero_le _, rfl⟩
theorem nice_int {e : Nat} {i : Int} (h0 : 0 ≤ i) (h1 : i < 10000000000) : Nice 100 e (.int i) := ⟨(int_small h0 h1).1, short_int h0 h1, weight_int h0 h1, Nat.zero_le _, rfl⟩
theorem nice_bool {e : Nat} {b : Bool} : Nice 0 e (.bool b) := ⟨rfl, rfl, Nat.le_refl _, Nat.zero_le _, rfl⟩
theorem nice_part {e p : Nat} (h1 : e < 10000000000) (h2 : p < 10000000000) : Nice 202 1 (partD e p) :=
  (NiceAll.tup (NiceAll.cons (nice_int (e := 0) (by omega) (by omega)) (NiceAll.cons (nice_int (e := 0) (by omega) (by omega)) (NiceAll.nil (w := 0))))).mono (by decide) (by decide)
theorem nice_names : ∀ {js : List Job}, (∀ j ∈ js, IsTag j.1) → NiceAll (9 * js.length) 0 (namesD js)
  | [], _ => NiceAll.nil
  | j :: js, h => by
    have hj := h j List.mem_cons_self
    have g := NiceAll.cons (nice_str (w := 8) (e := 0) (plain_tag hj) hj.2.1) (nice_names (js := js) fun x hx => h x (List.mem_cons_of_mem _ hx))
    exact ⟨g.sh, g.lv, Nat.le_trans g.wt (by rw [List.length_cons]; omega), g.dp, g.nd⟩
theorem nice_shares : ∀ {js : List Job}, (∀ j ∈ js, GoodPart 16 j.2.1 j.2.2) → NiceAll (203 * js.length) 1 (sharesD js)
  | [], _ => NiceAll.nil
  | j :: js, h => by
    obtain ⟨p1, p2, p3, _⟩ := h j List.mem_cons_self
    have g := NiceAll.cons (nice_part (e := j.2.1) (p := j.2.2) (by omega) (by omega)) (nice_shares (js := js) fun x hx => h x (List.mem_cons_of_mem _ hx))
    exact ⟨g.sh, g.lv, Nat.le_trans g.wt (by rw [List.length_cons]; omega), g.dp, g.nd⟩
theorem Nice.fits {w e : Nat} {d : PyData} (h : Nice w e d) (h1 : w ≤ 1000000) (h2 : e < 60) : d.showable = true ∧ d.hasDict = false ∧ d.depth < 60 ∧ d.shown.length ≤ sizeLine :=
  ⟨h.sh, h.nd, Nat.lt_of_le_of_lt h.dp h2, PyData.shown_fits (by decide) (by decide) h.lv (Nat.le_trans h.wt (Nat.le_trans h1 (by decide)))⟩
theorem shown_fits {n : Nat} {js : List Job} (G : Good 16 js) (hl : js.length ≤ 6) (hn : n ≤ 6) : (shownD n js).showable = true ∧ (shownD n js).hasDict = false ∧ (shownD n js).depth < 60 ∧ (shownD n js).shown.length ≤ sizeLine := by
  have lp : (pageS n js).length ≤ 1000 := by
    have := page_len (n := n) (by omega) (G.mono (show 16 ≤ 1000 by decide)) (by omega)
    omega
  have lr : (reprS js.length n).length ≤ 1000 := by
    have l1 : (Str.ofString "Lot of ").length = 7 := by decide
    have l2 : (Str.ofString " works, ").length = 8 := by decide
    have l3 : (Str.ofString " hands").length = 6 := by decide
    have l5 := numS_len (n := js.length) (by omega)
    have l6 := numS_len (n := n) (by omega)
    unfold reprS
    rw [Str.length_append, Str.length_append, Str.length_append, Str.length_append, l1, l2, l3]
    omega
  have t1 := top_le G hl
  have t2 := bot_le G
  have t3 := span_le G
  have ns := (nice_names G.tag).tup.mono (show 9 * js.length ≤ 1000 by omega) (show 0 + 1 ≤ 2 by decide)
  have ss := (nice_shares G.part).tup.mono (show 203 * js.length ≤ 2000 by omega) (show 1 + 1 ≤ 2 by decide)
  have page := nice_str (e := 2) (plain_page (n := n) G) lp
  have pr := (nice_part (e := totTop js) (p := totBot js) (by omega) (by omega)).mono (Nat.le_refl _) (show 1 ≤ 2 by decide)
  have all := NiceAll.lst (NiceAll.cons page (NiceAll.cons (nice_int (i := (n : Int)) (by omega) (by omega)) (NiceAll.cons ns (NiceAll.cons ss (NiceAll.cons pr (NiceAll.cons (nice_int (i := (spanN js : Int)) (by omega) (by omega)) (NiceAll.cons page (NiceAll.cons (nice_bool (b := true)) (NiceAll.cons (nice_str (plain_repr _ _) lr) (NiceAll.nil (w := 0)))))))))))
  exact all.fits (by decide) (by decide)
end Ts
namespace Ts
open PySem PySem.Spec PyProof.Rows L2
/-! ## works bent a little -/
theorem Good.sub {d : Nat} {js ks : List Job} (G : Good d js) (h : ks.Sublist js) : Good d ks :=
  ⟨G.nd.sublist (h.map _), fun j hj => G.tag j (h.subset hj), fun j hj => G.part j (h.subset hj)⟩
/-! ## a page tells its works -/
/-! ## pairs of hands and works, as data -/
/-! ## lists cut and joined -/
/-! ## two cells out of sight; cells that are new -/
def hd (c b : Addr) (H : Hp) : Hp := hid c (hid b H)
theorem hd_ne {a c b : Addr} {H : Hp} (h : a ≠ c) (g : a ≠ b) : hd c b H a = H a := (hid_ne h).trans (hid_ne g)
theorem hd_some {a c b : Addr} {H : Hp} {o : HO} (h : hd c b H a = some o) : a ≠ c ∧ a ≠ b ∧ H a = some o := by
  obtain ⟨n, h⟩ := hid_some h
  obtain ⟨m, h⟩ := hid_some h
  exact ⟨n, m, h⟩
theorem But.hd {c b : Addr} {H H' : Hp} (x : But b H H') : Same (Ts.hd c b H) (Ts.hd c b H') := fun a o h => by
  obtain ⟨n, m, h⟩ := hd_some h
  rw [hd_ne n m]; exact x a o m h
end Ts
namespace Ts
open PySem PySem.Spec PyProof.Rows L2
/-! ## a promise that says less -/
theorem Has.imp {P : Program} {w : World} {K : PySem.W.Frag} {mg : Str → Option Value} {base : Heap} {k : Nat} {x : Str} {ps : List Str} {sp sp' : Sp} (A : Has P w K mg base k x ps sp) (h : ∀ vs H Q E, sp' vs H Q E → sp vs H Q E) : Has P w K mg base k x ps sp' := by
  obtain ⟨f, fd, F, hm, hk, hb⟩ := A.ex
  exact ⟨f, fd, F.imp h, hm, hk, hb⟩
/-! ## a work put among others -/
def setJ (js : List Job) (j : Job) : List Job := if j.1 ∈ js.map (·.1) then js.map (fun x => if x.1 = j.1 then j else x) else js ++ [j]
theorem setJ_names (js : List Job) (j : Job) : (setJ js j).map (·.1) = if j.1 ∈ js.map (·.1) then js.map (·.1) else js.map (·.1) ++ [j.1] := by
  unfold setJ
  split
  · rw [List.map_map]
    refine List.map_congr_left fun x _ => ?_
    show (if x.1 = j.1 then j else x).1 = x.1
    split
    · rename_i h; exact h.symm
    · rfl
  · rw [List.map_append]; rfl
theorem setJ_mem {js : List Job} {j x : Job} (h : x ∈ setJ js j) : x = j ∨ x ∈ js := by
  unfold setJ at h
  split at h
  · obtain ⟨y, hy, e⟩ := List.mem_map.mp h
    split at e
    · exact .inl e.symm
    · exact .inr (e ▸ hy)
  · rcases List.mem_append.mp h with h | h
    · exact .inr h
    · exact .inl (List.mem_singleton.mp h)
theorem Good.set {d : Nat} {js : List Job} {j : Job} (G : Good d js) (ht : IsTag j.1) (hp : GoodPart d j.2.1 j.2.2) : Good d (setJ js j) := by
  refine ⟨?_, fun x hx => ?_, fun x hx => ?_⟩
  · rw [setJ_names]
    split
    · exact G.nd
    · rename_i h
      rw [List.nodup_append]
      refine ⟨G.nd, by simp, fun a ha b hb e => h ?_⟩
      rw [← List.mem_singleton.mp hb, ← e]; exact ha
  · rcases setJ_mem hx with h | h
    · rw [h]; exact ht
    · exact G.tag x h
  · rcases setJ_mem hx with h | h
    · rw [h]; exact hp
    · exact G.part x h
/-! ## dicts of works -/
theorem KvsOf.mono {K : PySem.W.Frag} {H H' : Hp} {kvs : List (Key × V)} {js : List Job} (h : KvsOf K H kvs js) (s : Same H H') : KvsOf K H' kvs js := ⟨h.1, h.2.mono s⟩
theorem KvsOf.length {K : PySem.W.Frag} {H : Hp} {kvs : List (Key × V)} {js : List Job} (h : KvsOf K H kvs js) : kvs.length = js.length := by
  have := congrArg List.length h.1
  rw [List.length_map, List.length_map] at this; exact this
/-! ## promises -/
end Ts
namespace Ts
open PySem PySem.Spec PyProof.Rows L2
/-! ## often wanted -/
theorem Bas.on {b : Addr} {H H' : Hp} (h : Bas H b) (s : Same H H') : Bas H' b := by
  obtain ⟨x, y, z, e⟩ := h
  exact ⟨x, y, z, s _ _ e⟩
theorem Bas.off {b p : Addr} {H : Hp} (h : Bas H b) (hp : H p = none) : p ≠ b := by
  obtain ⟨x, y, z, e⟩ := h
  exact (ne_of_none e hp).symm
theorem But.trans' {b : Addr} {H H1 H2 : Hp} (x : But b H H1) (s : Same H1 H2) : But b H H2 := x.trans (But.of_same s)
theorem hid_put {b : Addr} {H : Hp} {o : HO} : Same (hid b H) (hid b (upd H b o)) := fun a u e => by
  obtain ⟨n, e⟩ := hid_some e
  rw [hid_ne n, upd_ne n]; exact e
theorem hid_same {b : Addr} {H H' : Hp} (s : Same H H') : Same (hid b H) (hid b H') := (But.of_same s : But b H H').hid
/-- behind the making of a lot -/
theorem lot_same {x dx : Addr} {o u : HO} {H H' : Hp} (b : But x (upd (upd H dx u) x o) H') (hx : H x = none) (hdx : H dx = none) : Same H H' :=
  fun a v e => b a v (ne_of_none e hx) (by rw [upd_ne (ne_of_none e hx), upd_ne (ne_of_none e hdx)]; exact e)
section
variable {K : PySem.W.Frag} {mg : Str → Option Value} {C : Addr} {H : Hp} {Q : VK} {x y : Addr} {m n : Nat} {js ks : List Job}
theorem LotAt.kind (T : LotC K mg C) (I : LotI K C) (L : LotAt K C H x n js) : TyX K H (.ref x) (.ref C) := by
  obtain ⟨dx, pn, ps, pt, ha, _⟩ := L.ex
  exact .base (.ins ha T.cl I.ha I.hn I.htk I.hm)
end
/-! ## a work put back as it was -/
/-! ## pairs of a list, as a dict -/
end Ts
namespace Ts
open PySem PySem.Spec PyProof.Rows L2
/-! ## rows of numbers sorted, of any lengths, as many as there are -/
section
variable {prog : Program} {w : World} {A : Around} {E : Value → Shared → Prop} {s : Shared}
theorem rows_lex {Q : Bool → Shared → Prop} {b fin : Bool} {us vs : List Value} {ns ms : List Int} (i : Nat) (hu : IntsAre us ns) (hv : IntsAre vs ms) (hf : fin = decide (ns.length < ms.length)) (h : Q (HT.lexLt ns ms) s) :
    PySem.W.KatLex prog w A b fin Q (us.zip vs) i s := by
  induction hu generalizing vs ms i with
  | nil =>
    cases hv with
    | nil => rw [HT.lexLt_nil_nil] at h; rw [hf]; exact PySem.W.kat_nil h
    | cons q t hv => rw [HT.lexLt_nil_cons] at h; rw [hf, decide_eq_true (by simp)]; exact PySem.W.kat_nil h
  | @cons p t us ns hu ih =>
    cases hv with
    | nil => rw [HT.lexLt_cons_nil] at h; rw [hf, decide_eq_false (by simp)]; exact PySem.W.kat_nil h
    | @cons q t2 vs ms hv =>
      have hf2 : fin = decide (ns.length < ms.length) := by rw [hf]; simp
      show PySem.W.KatLex prog w A b fin Q ((Value.int p t, Value.int q t2) :: us.zip vs) i s
      rw [HT.lexLt_cons] at h
      refine PySem.W.kat_cons (wpAny_eqBool_int ?_)
      by_cases e : p = q
      · rw [if_pos e] at h
        rw [e, beq_self_eq_true]
        refine PySem.W.kat_yes ?_
        first | exact ih (i + 1) hv hf2 h | exact ih hf2 (i + 1) hv h | exact ih _ _ (i + 1) hv hf2 h
      · rw [if_neg e] at h
        rw [beq_eq_false_iff_ne.mpr e]
        exact PySem.W.kat_no (TS.oneLt_ints _ h)
def ltL {α : Type} (k : α → List Int) (x y : α) : Bool := HT.lexLt (k x) (k y)
theorem rows_cmp {vs : List Value} {k : Value → List Int} (hp : ∀ v ∈ vs, TS.TupInts s.heap v (k v)) : SrtO.Cmp prog w A s (tuples' true) (fun p => p.1 ∈ vs) (SrtO.lt2 (ltL k)) := by
  intro p q h1 h2
  have r1 := hp _ h1
  have r2 := hp _ h2
  show wpAny (model prog w) A (keyLt' (tuples' true) p.1 q.1) (fun r s' => s' = s ∧ r = HT.lexLt (k p.1) (k q.1)) (fun _ _ => False) s
  generalize k p.1 = ns at r1 ⊢
  generalize k q.1 = ms at r2 ⊢
  obtain ⟨a, xs, e1, ⟨o, ho, hc, n, hd⟩, i1⟩ := r1
  obtain ⟨b, ys, e2, ⟨o2, ho2, hc2, n2, hd2⟩, i2⟩ := r2
  rw [e1, e2]
  refine PySem.W.kat_lt ho hd ho2 hd2 (rows_lex 0 i1 i2 ?_ ⟨rfl, rfl⟩)
  have l1 := i1.length
  have l2 := i2.length
  rw [Array.length_toList] at l1 l2
  rw [l1, l2]
theorem rows_first {h : Heap} : ∀ {vs : List Value}, (∀ v ∈ vs, ∃ ns, TS.TupInts h v ns ∧ 1 ≤ ns.length) → ∃ fs, PySem.W.KatTups h vs fs ∧ fs.length = vs.length ∧ ∀ f ∈ fs, ∃ n t, f = Value.int n t
  | [], _ => ⟨[], PySem.W.KatTups.nil, rfl, fun f z => absurd z (by simp)⟩
  | v :: vs, g => by
    obtain ⟨fs, k1, k2, k3⟩ := rows_first (vs := vs) fun u z => g u (List.mem_cons_of_mem _ z)
    obtain ⟨ns, ⟨a, xs, rfl, ⟨o, ho, hc, n, hd⟩, hi⟩, hl⟩ := g v List.mem_cons_self
    cases e : xs.toList with
    | nil =>
      rw [e] at hi
      cases hi
      exact absurd hl (by decide)
    | cons y ys =>
      obtain ⟨m, t, hy⟩ := hi.all y (by rw [e]; exact List.mem_cons_self)
      have x0 : xs[0]? = some y := by
        have z := congrArg (fun l : List Value => l[0]?) e
        simpa using z
      refine ⟨y :: fs, PySem.W.KatTups.cons ho hc hd x0 k1, by rw [List.length_cons, List.length_cons, k2], fun f z => ?_⟩
      rcases List.mem_cons.mp z with rfl | z
      · exact ⟨m, t, hy⟩
      · exact k3 f z
theorem rows_able {a : Addr} {vs : List Value} {k : Value → List Int} (h0 : 0 < vs.length) (hp : ∀ v ∈ vs, TS.TupInts s.heap v (k v) ∧ 1 ≤ (k v).length) (ha : ∀ o, s.heap.get? a = some o → o.cls ≠ .type "tuple") : SrtO.SortableO prog w A s a vs (ltL k) := by
  intro h2 keep
  have g : ∀ v ∈ vs, TS.TupInts h2 v (k v) := fun v z => (hp v z).1.keeps fun b o e c => keep b o (fun y => by subst y; exact ha o e c) e
  obtain ⟨fs, k1, k2, k3⟩ := rows_first (h := h2) (vs := vs) fun v z => ⟨_, g v z, (hp v z).2⟩
  refine ⟨tuples' true, fun Q E hq => ?_, rows_cmp g⟩
  refine PySem.W.kat_kind (T := .type "int") k1 (by omega) (fun f z => ?_) (by rfl) ?_
  · obtain ⟨x, t, rfl⟩ := k3 f z
    exact PySem.W.Looks.now
  · have e : (Value.type "int" != Value.type "tuple") = true := by first | decide +kernel | rfl | decide
    rw [e]; exact hq
end
/-! ## a list walked: the outer and the inner loop of a comprehension -/
theorem pi_listK {X : Cx} {K : PySem.W.Frag} {tg e : Expr} {te : TE} (hK : X.K = K) (he : PE X e te) : PI X tg e (iList K te) := by subst hK; exact pi_list he
end Ts
namespace PySem
open Sem (wp)
end PySem
namespace Ts
open PySem PySem.Spec PyProof.Rows L2
/-! ## tuples put together, also with empty ones -/
section
variable {prog : Program} {w : World} {A : Around} {E : Value → Shared → Prop} {s : Shared}
theorem cat_none {t b : Addr} {vs : List Value} {Q : Value → Shared → Prop} (ht : IsTup s.heap t #[]) (hb : IsTup s.heap b vs.toArray) (h : Q (.ref b) s) : wpAny (model prog w) A (binaryOp .Add (.ref t) (.ref b)) Q E s := by
  obtain ⟨⟨c1, d1, k1, l1⟩, o1, e1, n1, g1⟩ := id ht
  obtain ⟨⟨c2, d2, k2, l2⟩, o2, e2, n2, g2⟩ := id hb
  simp only at e1 g1 e2 g2
  subst e1 g1 e2 g2
  exact concat_meets ⟨_, o1, rfl⟩ ⟨_, o2, rfl⟩ noFill_tuple_add seq_tuple_add PySem.F.slot_tuple_add PySem.F.entry_tuple_add (PySem.F.args_tuple_add_2 _ _) (tuple_addW0 t b #[] vs.toArray n1 n2 d1 d2 l1 l2 (by simp)) ⟨o1, o2, h⟩
end
def rCatU (K : PySem.W.Frag) : R2 := fun x y H Q => ∃ a b xs ys, x = .ref a ∧ y = .ref b ∧ SqT K H a xs ∧ SqT K H b ys ∧ xs.length + ys.length ≤ sizeLine ∧
  ∀ p H', Same H H' → (p = a ∨ p = b ∨ H p = none) → SqT K H' p (xs ++ ys) → Q (.ref p) H'
theorem op_catU {X : Cx} : OpR X (binaryOp .Add) (rCatU X.K) := by
  intro pins s σ H x y v u Q I rx ry h
  obtain ⟨a, b, xs, ys, rfl, rfl, ha, hb, hz, q⟩ := id h
  by_cases hx : xs = []
  · subst hx
    cases rx
    cases ry
    obtain ⟨its, r1, p1, _⟩ := I.tuple ha
    obtain ⟨its2, r2, p2, _⟩ := I.tuple hb
    cases r1
    exact cat_none p1 p2 ⟨.ref b, H, I, rfl, q b H (fun _ _ z => z) (.inr (.inl rfl)) hb⟩
  · refine op_catT pins s σ H _ _ v u Q I rx ry ⟨a, b, xs, ys, rfl, rfl, ha, hb, hx, hz, fun e => ?_, fun _ p hp => q p _ (same_new hp) (.inr (.inr hp)) (SqT.of upd_same)⟩
    subst e
    exact q a H (fun _ _ z => z) (.inl rfl) (by rw [List.append_nil]; exact ha)
theorem op_catUK {X : Cx} {K : PySem.W.Frag} (h : X.K = K) : OpR X (binaryOp .Add) (rCatU K) := by subst h; exact op_catU
end Ts
namespace Ts
open PySem PySem.Spec PyProof.Rows L2
theorem SqT.offL {K : PySem.W.Frag} {H : Hp} {m a : Addr} {us xs : List V} (h : SqT K H a xs) (e : H m = some (.lst us)) : SqT K (hid m H) a xs := by
  rcases h with (h | ⟨o, h⟩) | h
  · have n : a ≠ m := fun z => by rw [z, e] at h; cases h
    exact .inl (.inl (by rw [hid_ne n]; exact h))
  · have n : a ≠ m := fun z => by rw [z, e] at h; cases h
    exact .inl (.inr ⟨o, by rw [hid_ne n]; exact h⟩)
  · exact .inr h
/-! ## rows: one of each -/
abbrev rowD (r : List Int) : PyData := .tuple (r.map PyData.int)
/-- each row, with each number of the next ones behind it -/
def growR (rows : List (List Int)) (o : List Int) : List (List Int) := rows.flatMap fun r => o.map fun m => r ++ [m]
def picksR (os : List (List Int)) : List (List Int) := os.foldl growR [[]]
theorem grow_len {rows : List (List Int)} {o : List Int} : (growR rows o).length = rows.length * o.length := by
  unfold growR
  induction rows with
  | nil => simp
  | cons r rows ih => rw [List.flatMap_cons, List.length_append, ih, List.length_map, List.length_cons, Nat.add_mul]; omega
theorem picks_len : ∀ {os : List (List Int)}, (∀ o ∈ os, o.length ≤ 2) → (picksR os).length ≤ 2 ^ os.length := by
  intro os h
  have go : ∀ (os : List (List Int)) (rows : List (List Int)), (∀ o ∈ os, o.length ≤ 2) → (os.foldl growR rows).length ≤ rows.length * 2 ^ os.length := by
    intro os
    induction os with
    | nil => intro rows _; simp
    | cons o os ih =>
      intro rows h
      have h1 := ih (growR rows o) fun x hx => h x (List.mem_cons_of_mem _ hx)
      rw [grow_len] at h1
      have h2 := h o List.mem_cons_self
      rw [List.foldl_cons, List.length_cons, Nat.pow_succ]
      refine Nat.le_trans h1 ?_
      calc rows.length * o.length * 2 ^ os.length ≤ rows.length * 2 * 2 ^ os.length := Nat.mul_le_mul_right _ (Nat.mul_le_mul_left _ h2)
        _ = rows.length * (2 ^ os.length * 2) := by rw [Nat.mul_assoc, Nat.mul_comm 2]
  have := go os [[]] h
  simpa [picksR] using this
theorem picks_each {os : List (List Int)} : ∀ r ∈ picksR os, r.length = os.length := by
  have go : ∀ (os : List (List Int)) (rows : List (List Int)) (n : Nat), (∀ r ∈ rows, r.length = n) → ∀ r ∈ os.foldl growR rows, r.length = n + os.length := by
    intro os
    induction os with
    | nil => intro rows n h r hr; exact h r hr
    | cons o os ih =>
      intro rows n h r hr
      have h1 := ih (growR rows o) (n + 1) (fun r hr => by
        unfold growR at hr
        obtain ⟨r1, h1, h2⟩ := List.mem_flatMap.mp hr
        obtain ⟨m, _, rfl⟩ := List.mem_map.mp h2
        rw [List.length_append, h r1 h1]; rfl) r hr
      rw [h1, List.length_cons]; omega
  intro r hr
  have := go os [[]] 0 (by simp) r hr
  omega
theorem grow_snoc {rows : List (List Int)} {k : Nat} {r o : List Int} (h : rows[k]? = some r) : growR (rows.take (k + 1)) o = growR (rows.take k) o ++ o.map fun m => r ++ [m] := by
  unfold growR
  rw [List.take_add_one, h, List.flatMap_append]; simp
/-- the rows are in their order if the numbers are -/
theorem lex_snoc : ∀ {r q : List Int} {m n : Int}, r.length = q.length → HT.lexLt (r ++ [m]) (q ++ [n]) = if r = q then decide (m < n) else HT.lexLt r q := by
  intro r
  induction r with
  | nil =>
    intro q m n h
    cases q with
    | nil =>
      show HT.lexLt [m] [n] = if ([] : List Int) = [] then decide (m < n) else _
      rw [if_pos rfl, HT.lexLt_cons]
      by_cases e : m = n
      · rw [if_pos e, HT.lexLt_nil_nil, e]; exact (decide_eq_false (Int.lt_irrefl _)).symm
      · rw [if_neg e]
    | cons y q => exact absurd h (by simp)
  | cons x r ih =>
    intro q m n h
    cases q with
    | nil => exact absurd h (by simp)
    | cons y q =>
      have hl : r.length = q.length := by simpa using h
      show HT.lexLt (x :: (r ++ [m])) (y :: (q ++ [n])) = _
      rw [HT.lexLt_cons, HT.lexLt_cons, ih hl]
      by_cases e : x = y
      · rw [if_pos e, if_pos e, e]
        by_cases e2 : r = q
        · rw [if_pos e2, if_pos (by rw [e2])]
        · rw [if_neg e2, if_neg (fun z => e2 (by injection z))]
      · rw [if_neg e, if_neg e, if_neg (fun z => e (by injection z))]
def RowsUp (rows : List (List Int)) : Prop := rows.Pairwise fun r q => HT.lexLt r q = true
theorem grow_up {rows : List (List Int)} {o : List Int} {n : Nat} (h : RowsUp rows) (hn : ∀ r ∈ rows, r.length = n) (ho : o.Pairwise (· < ·)) : RowsUp (growR rows o) := by
  unfold RowsUp growR
  rw [List.pairwise_flatMap]
  refine ⟨fun r hr => ?_, ?_⟩
  · rw [List.pairwise_map]
    refine ho.imp fun {m k} hmk => ?_
    rw [lex_snoc rfl, if_pos rfl]; exact decide_eq_true hmk
  · refine List.Pairwise.imp_of_mem (fun {r q} hr hq hrq a ha b hb => ?_) h
    obtain ⟨m, _, rfl⟩ := List.mem_map.mp ha
    obtain ⟨k, _, rfl⟩ := List.mem_map.mp hb
    rw [lex_snoc ((hn r hr).trans (hn q hq).symm), if_neg ?_, hrq]
    intro e
    rw [e] at hrq
    have := NtL.lex_asym _ _ hrq
    rw [hrq] at this; cases this
theorem picks_up {os : List (List Int)} (h : ∀ o ∈ os, o.Pairwise (· < ·)) : RowsUp (picksR os) := by
  have go : ∀ (os : List (List Int)) (rows : List (List Int)) (n : Nat), (∀ o ∈ os, o.Pairwise (· < ·)) → RowsUp rows → (∀ r ∈ rows, r.length = n) → RowsUp (os.foldl growR rows) := by
    intro os
    induction os with
    | nil => intro rows n _ h _; exact h
    | cons o os ih =>
      intro rows n h hr hn
      refine ih _ (n + 1) (fun x hx => h x (List.mem_cons_of_mem _ hx)) (grow_up hr hn (h o List.mem_cons_self)) fun r hr => ?_
      unfold growR at hr
      obtain ⟨r1, h1, h2⟩ := List.mem_flatMap.mp hr
      obtain ⟨m, _, rfl⟩ := List.mem_map.mp h2
      rw [List.length_append, hn r1 h1]; rfl
  exact go os [[]] 0 h (by unfold RowsUp; simp) (by simp)
/-! ## the numbers that keep a work -/
/-- the numbers of ticks with which a work is kept at t -/
def keptL (e p : Nat) (t : Int) : List Int := if t * e % p = 0 then [lowI e p t] else [lowI e p t, lowI e p t + 1]
theorem kept_len {e p : Nat} {t : Int} : (keptL e p t).length ≤ 2 := by unfold keptL; split <;> simp
theorem kept_up {e p : Nat} {t : Int} : (keptL e p t).Pairwise (· < ·) := by unfold keptL; split <;> simp <;> omega
theorem high_eq {e p : Nat} {t : Int} (hp : 0 < p) : highI e p t = if t * e % p = 0 then lowI e p t else lowI e p t + 1 := by
  unfold highI lowI
  have hp : (0 : Int) < p := by omega
  have h1 := Int.mul_ediv_add_emod (t * e) p
  have h2 := Int.emod_nonneg (t * e) (Int.ne_of_gt hp)
  have h3 := Int.emod_lt_of_pos (t * e) hp
  generalize (t * (e : Int)) = n at *
  generalize n / (p : Int) = q at *
  generalize n % (p : Int) = r at *
  split
  · rename_i h
    rw [show n + p - 1 = (p - 1 : Int) + p * q by omega, Int.add_mul_ediv_left _ _ (Int.ne_of_gt hp), Int.ediv_eq_zero_of_lt (by omega) (by omega)]; omega
  · rename_i h
    rw [show n + p - 1 = (r - 1 : Int) + p * (q + 1) by rw [Int.mul_add]; omega, Int.add_mul_ediv_left _ _ (Int.ne_of_gt hp), Int.ediv_eq_zero_of_lt (by omega) (by omega)]; omega
/-- the options of all works at t -/
def optsR (js : List Job) (t : Int) : List (List Int) := js.map fun j => keptL j.2.1 j.2.2 t
def rowsR (js : List Job) (t : Int) : List (List Int) := picksR (optsR js t)
theorem rows_up (js : List Job) (t : Int) : RowsUp (rowsR js t) := picks_up fun o h => by
  unfold optsR at h
  obtain ⟨j, _, rfl⟩ := List.mem_map.mp h
  exact kept_up
theorem rows_each {js : List Job} {t : Int} : ∀ r ∈ rowsR js t, r.length = js.length := fun r h => by
  rw [picks_each r h]; exact List.length_map _
theorem rows_len {js : List Job} {t : Int} : (rowsR js t).length ≤ 2 ^ js.length := by
  have h := picks_len (os := optsR js t) fun o h => by
    unfold optsR at h
    obtain ⟨j, _, rfl⟩ := List.mem_map.mp h
    exact kept_len
  have e : (optsR js t).length = js.length := List.length_map _
  rw [e] at h; exact h
theorem kept_ends {e p : Nat} {t m : Int} (hp : 0 < p) : (t * e - m * p < p ∧ m * p - t * e < p) ↔ (lowI e p t ≤ m ∧ m < highI e p t + 1) := by
  unfold lowI highI
  have h1 := div_le_iff (a := t * e) (t := m) hp
  have h2 := lt_up_iff (a := t * e) (t := m - 1) hp
  rw [Int.add_mul, Int.one_mul] at h1
  rw [Int.sub_mul, Int.one_mul] at h2
  constructor
  · rintro ⟨a, b⟩
    exact ⟨h1.mpr (by omega), by have := h2.mpr (by omega); omega⟩
  · rintro ⟨a, b⟩
    have c := h1.mp a
    have d := h2.mp (by omega)
    exact ⟨by omega, by omega⟩
theorem cut_last {xs : List V} : cutV xs none (some (-1)) = xs.take (xs.length - 1) := by
  have e : HT.sIx xs.length xs.length (some (-1)) = xs.length - 1 := by
    show (if (-1 : Int) < 0 then ((-1 : Int) + (xs.length : Int)).toNat else min (-1 : Int).toNat xs.length) = _
    rw [if_pos (by decide)]; omega
  unfold cutV
  rw [e, HT.sIx_none, List.drop_zero, Nat.sub_zero]
/-! ## what is asked -/
def spCheckRound (K : PySem.W.Frag) (C : Addr) : Sp := fun vs H Q _ => ∃ (a : Addr) (n : Nat) (js : List Job), vs = [.ref a] ∧ LotAt K C H a n js ∧ spanN js ≤ 720 ∧ Q .non H
end Ts
namespace Ts
/-! ## crews as numbers -/
def crewN (ms : List Nat) : Nat := (ms.map fun m => 2 ^ m).sum
def posL {α : Type} (p : α → Bool) : List α → Nat → List Nat
  | [], _ => []
  | x :: r, i => if p x = true then i :: posL p r (i + 1) else posL p r (i + 1)
theorem crew_snoc (ms : List Nat) (m : Nat) : crewN (ms ++ [m]) = crewN ms + 2 ^ m := by simp [crewN]
theorem posL_lt {α : Type} (p : α → Bool) : ∀ (l : List α) (i : Nat), crewN (posL p l i) + 2 ^ i ≤ 2 ^ (i + l.length)
  | [], i => by simp [posL, crewN]
  | x :: r, i => by
    have ih := posL_lt p r (i + 1)
    have e : i + (x :: r).length = i + 1 + r.length := by simp; omega
    rw [e]
    unfold posL
    have e2 : 2 ^ (i + 1) = 2 ^ i + 2 ^ i := by rw [Nat.pow_succ]; omega
    have e3 := Nat.two_pow_pos i
    split
    · show (2 ^ i + crewN (posL p r (i + 1))) + 2 ^ i ≤ _
      omega
    · omega
theorem posL_lt0 {α : Type} (p : α → Bool) (l : List α) : crewN (posL p l 0) < 2 ^ l.length := by
  have := posL_lt p l 0
  rw [Nat.zero_add, Nat.pow_zero] at this; omega
theorem posL_in {α : Type} (p : α → Bool) : ∀ (l : List α) (i : Nat), ∀ m ∈ posL p l i, i ≤ m ∧ m < i + l.length
  | [], i, m, h => by cases h
  | x :: r, i, m, h => by
    unfold posL at h
    have ih := posL_in p r (i + 1)
    rw [List.length_cons]
    split at h
    · rcases List.mem_cons.mp h with rfl | h
      · omega
      · have := ih m h; omega
    · have := ih m h; omega
theorem posL_snoc {α : Type} (p : α → Bool) : ∀ (l : List α) (i : Nat) (x : α), posL p (l ++ [x]) i = posL p l i ++ if p x = true then [i + l.length] else []
  | [], i, x => by
    show (if p x = true then i :: [] else []) = [] ++ _
    simp
  | y :: r, i, x => by
    show (if p y = true then i :: posL p (r ++ [x]) (i + 1) else posL p (r ++ [x]) (i + 1)) = (if p y = true then i :: posL p r (i + 1) else posL p r (i + 1)) ++ _
    rw [posL_snoc p r (i + 1) x]
    have e : i + 1 + r.length = i + (y :: r).length := by simp; omega
    rw [e]
    split <;> simp
theorem posL_len {α : Type} (p : α → Bool) : ∀ (l : List α) (i : Nat), (posL p l i).length ≤ l.length
  | [], _ => Nat.le_refl _
  | x :: r, i => by
    have := posL_len p r (i + 1)
    unfold posL
    rw [List.length_cons]
    split
    · rw [List.length_cons]; omega
    · omega
def sizesN : Nat → List Nat
  | 0 => [0]
  | n + 1 => sizesN n ++ (sizesN n).map (· + 1)
def subsN : Nat → List (List Nat)
  | 0 => [[0]]
  | n + 1 => subsN n ++ (subsN n).map fun w => w ++ w.map (· + 2 ^ n)
theorem subs_len : ∀ n, (subsN n).length = 2 ^ n
  | 0 => rfl
  | n + 1 => by rw [subsN, List.length_append, List.length_map, subs_len n, Nat.pow_succ]; omega
/-- what lies within a crew is no greater, and of the same works -/
theorem subs_in : ∀ n, ∀ w ∈ subsN n, w.length ≤ 2 ^ n ∧ ∀ p ∈ w, p < 2 ^ n
  | 0, w, h => by
    have e : w = [0] := by simpa [subsN] using h
    subst e
    refine ⟨by decide, fun p hp => ?_⟩
    have : p = 0 := by simpa using hp
    subst this; decide
  | n + 1, w, h => by
    have e2 : 2 ^ (n + 1) = 2 ^ n + 2 ^ n := by rw [Nat.pow_succ]; omega
    rcases List.mem_append.mp h with h | h
    · obtain ⟨a, b⟩ := subs_in n w h
      exact ⟨by omega, fun p hp => by have := b p hp; omega⟩
    · obtain ⟨u, hu, rfl⟩ := List.mem_map.mp h
      obtain ⟨a, b⟩ := subs_in n u hu
      refine ⟨by rw [List.length_append, List.length_map]; omega, fun p hp => ?_⟩
      rcases List.mem_append.mp hp with hp | hp
      · have := b p hp; omega
      · obtain ⟨q, hq, rfl⟩ := List.mem_map.mp hp
        have := b q hq; omega
/-! ## the walk back -/
/-- the standings of a crew's subsets, as a number -/
def possN (n c : Nat) : Nat := crewN ((subsN n).getD c [])
def notAheadN (n at_ : Nat) : Nat := crewN (((subsN n).getD (2 ^ n - 1) []).filter fun a => a / 2 ^ at_ % 2 == 0)
def stepN (grown at_ others given idle : Nat) : Nat :=
  if grown / 2 ^ at_ % 2 = 1 then given ||| ((idle &&& others) * 2 ^ 2 ^ at_) else idle ||| ((given / 2 ^ 2 ^ at_) &&& others)
/-- pairs of what comes with a hand and without one -/
def pairN (found : List Nat) : List (Nat × Nat) := (found ++ [0]).zip (0 :: found)
def foundN (grown : Nat) : List Nat → Nat → List Nat → List Nat
  | [], _, found => found
  | o :: os, at_, found => foundN grown os (at_ + 1) ((pairN found).map fun q => stepN grown at_ o q.2 q.1)
def beforeN (after grown : Nat) (na : List Nat) (most : Nat) : Nat := ((foundN grown na 0 [after]).take (most + 1)).foldl (· ||| ·) 0
end Ts
namespace Ts
open PySem PySem.Spec PyProof.Rows L2
/-! ## rows of great numbers, written and compared -/
/-- data of short texts and of numbers of up to forty digits -/
structure Fine (w e : Nat) (d : PyData) : Prop where
  sh : d.showable = true
  lv : d.leavesShort 40 = true
  wt : d.weight ≤ w
  dp : d.depth ≤ e
  nd : d.hasDict = false
structure FineAll (w e : Nat) (ds : List PyData) : Prop where
  sh : PyData.showableAll ds = true
  lv : PyData.leavesShortAll 40 ds = true
  wt : PyData.weightAll ds ≤ w
  dp : PyData.depthAll ds ≤ e
  nd : PyData.hasDictAll ds = false
theorem FineAll.nil {w e : Nat} : FineAll w e [] := ⟨rfl, rfl, Nat.zero_le _, Nat.zero_le _, rfl⟩
theorem FineAll.cons {w w' e : Nat} {d : PyData} {ds : List PyData} (h : Fine w e d) (g : FineAll w' e ds) : FineAll (w + 1 + w') e (d :: ds) := by
  have h1 := h.wt
  have h2 := g.wt
  have h3 := h.dp
  have h4 := g.dp
  exact ⟨by show (d.showable && PyData.showableAll ds) = true; rw [h.sh, g.sh]; rfl, by show (d.leavesShort 40 && PyData.leavesShortAll 40 ds) = true; rw [h.lv, g.lv]; rfl, by show d.weight + 1 + PyData.weightAll ds ≤ w + 1 + w'; omega,
    by show max d.depth (PyData.depthAll ds) ≤ e; omega, by show (d.hasDict || PyData.hasDictAll ds) = false; rw [h.nd, g.nd]; rfl⟩
theorem FineAll.tup {w e : Nat} {ds : List PyData} (g : FineAll w e ds) : Fine w (e + 1) (.tuple ds) := ⟨g.sh, g.lv, g.wt, Nat.succ_le_succ g.dp, g.nd⟩
theorem FineAll.lst {w e : Nat} {ds : List PyData} (g : FineAll w e ds) : Fine w (e + 1) (.list ds) := ⟨g.sh, g.lv, g.wt, Nat.succ_le_succ g.dp, g.nd⟩
theorem Fine.mono {w w' e e' : Nat} {d : PyData} (h : Fine w e d) (h1 : w ≤ w') (h2 : e ≤ e') : Fine w' e' d := ⟨h.sh, h.lv, Nat.le_trans h.wt h1, Nat.le_trans h.dp h2, h.nd⟩
theorem FineAll.mono {w w' e e' : Nat} {ds : List PyData} (h : FineAll w e ds) (h1 : w ≤ w') (h2 : e ≤ e') : FineAll w' e' ds := ⟨h.sh, h.lv, Nat.le_trans h.wt h1, Nat.le_trans h.dp h2, h.nd⟩
theorem fine_int {e : Nat} {i : Int} (h0 : 0 ≤ i) (h1 : i < 10 ^ 40) : Fine 140 e (.int i) := by
  obtain ⟨a, b⟩ := int_big h0 h1
  refine ⟨a, decide_eq_true b, ?_, Nat.zero_le _, rfl⟩
  show (if i == 0 then 0 else i.natAbs.log2 + 1) ≤ 140
  split
  · omega
  · by_cases z : i.natAbs = 0
    · rw [z]; decide
    · have k : ((10 : Int) ^ 40) = ((10 ^ 40 : Nat) : Int) := by rw [Int.natCast_pow]; rfl
      rw [k] at h1
      have l : i.natAbs < 10 ^ 40 := by generalize 10 ^ 40 = c at h1 ⊢; omega
      have := (Nat.log2_lt z).mpr (Nat.lt_trans l (by decide +kernel : 10 ^ 40 < 2 ^ 139))
      omega
theorem fine_none {e : Nat} : Fine 0 e .none := ⟨rfl, rfl, Nat.le_refl _, Nat.zero_le _, rfl⟩
theorem fine_bool {e : Nat} {b : Bool} : Fine 0 e (.bool b) := ⟨rfl, rfl, Nat.le_refl _, Nat.zero_le _, rfl⟩
theorem fine_ints : ∀ {l : List Int}, (∀ i ∈ l, 0 ≤ i ∧ i < 10 ^ 40) → FineAll (141 * l.length) 0 (l.map PyData.int)
  | [], _ => FineAll.nil
  | i :: l, h => by
    obtain ⟨a, b⟩ := h i List.mem_cons_self
    exact (FineAll.cons (fine_int (e := 0) a b) (fine_ints (l := l) fun x hx => h x (List.mem_cons_of_mem _ hx))).mono (by rw [List.length_cons]; omega) (Nat.le_refl _)
theorem fine_all {w e : Nat} : ∀ {ds : List PyData}, (∀ d ∈ ds, Fine w e d) → FineAll ((w + 1) * ds.length) e ds
  | [], _ => FineAll.nil
  | d :: ds, h => by
    refine (FineAll.cons (h d List.mem_cons_self) (fine_all (ds := ds) fun x hx => h x (List.mem_cons_of_mem _ hx))).mono ?_ (Nat.le_refl _)
    rw [List.length_cons, Nat.mul_add]; omega
theorem Fine.fits {w e : Nat} {d : PyData} (h : Fine w e d) (h1 : w ≤ 300000) (h2 : e < 60) : d.showable = true ∧ d.hasDict = false ∧ d.depth < 60 ∧ d.shown.length ≤ sizeLine := by
  refine ⟨h.sh, h.nd, Nat.lt_of_le_of_lt h.dp h2, ?_⟩
  have a := PyData.shown_le 40 (by decide) d h.lv
  have b := h.wt
  rw [sizeLine_eq]
  omega
/-! ## equal rows -/
theorem eqv_ints : ∀ (r q : List Int), PyData.eqvAll (r.map PyData.int) (q.map PyData.int) = decide (r = q)
  | [], [] => rfl
  | [], _ :: _ => rfl
  | _ :: _, [] => rfl
  | x :: r, y :: q => by
    show ((x == y) && PyData.eqvAll (r.map PyData.int) (q.map PyData.int)) = _
    rw [eqv_ints r q]
    by_cases h1 : x = y <;> by_cases h2 : r = q <;> simp [h1, h2]
theorem shaped_rows (rows : List (List Int)) : SeqAt.shaped (.tuple (rows.map rowD)) = true := by
  have l1 : ∀ r : List Int, PyData.canLayAll0 (r.map PyData.int) = true := fun r => by
    induction r with
    | nil => rfl
    | cons x r ih => exact ih
  have d1 : ∀ r : List Int, PyData.depthAll (r.map PyData.int) = 0 := fun r => by
    induction r with
    | nil => rfl
    | cons x r ih => show max 0 (PyData.depthAll (r.map PyData.int)) = 0; rw [ih]; rfl
  have l2 : PyData.canLayAll0 (rows.map rowD) = true := by
    induction rows with
    | nil => rfl
    | cons r rows ih => show (PyData.canLayAll0 (r.map PyData.int) && PyData.canLayAll0 (rows.map rowD)) = true; rw [l1, ih]; rfl
  have d2 : PyData.depthAll (rows.map rowD) ≤ 1 := by
    induction rows with
    | nil => exact Nat.zero_le _
    | cons r rows ih =>
      have h : PyData.canLayAll0 (rows.map rowD) = true := by
        have l3 : (PyData.canLayAll0 (r.map PyData.int) && PyData.canLayAll0 (rows.map rowD)) = true := l2
        rw [l1] at l3; exact l3
      have := ih h
      show max (PyData.depthAll (r.map PyData.int) + 1) (PyData.depthAll (rows.map rowD)) ≤ 1
      rw [d1]; omega
  show (PyData.canLayAll0 (rows.map rowD) && decide (PyData.depthAll (rows.map rowD) + 1 ≤ 64)) = true
  rw [l2, decide_eq_true (by omega)]; rfl
/-! ## draws out of a great many -/
end Ts
namespace Ts
open PySem PySem.Spec PyProof.Rows L2
/-! ## bits of numbers from 0 on -/
/-- of one crew those that are not in the other -/
def needN (g a : Nat) : Nat := g - (g &&& a)
def xorN (g a : Nat) : Nat := (g ||| a) - (g &&& a)
/-! ## lists of numbers -/
abbrev natV (ms : List Nat) : List V := ms.map fun m : Nat => V.int (m : Int)
abbrev natD (ms : List Nat) : List PyData := ms.map fun m : Nat => PyData.int (m : Int)
theorem natV_sum (ms : List Nat) : (ms.map fun m : Nat => (m : Int)).sum = ((ms.sum : Nat) : Int) := by
  induction ms with
  | nil => rfl
  | cons m ms ih => rw [List.map_cons, List.sum_cons, List.sum_cons, ih]; norm_cast
def membersN (c : Nat) : List Nat := (List.range (Builtin.Int.intBits (c : Int))).filter fun a => c / 2 ^ a % 2 == 1
def grownL (xs ys : List Int) : Nat := crewN (posL (fun q : Int × Int => decide (q.1 < q.2)) (xs.zip ys) 0)
abbrev subsD (n : Nat) : List PyData := (subsN n).map fun w => PyData.list (natD w)
/-! ## what is asked -/
end Ts
namespace Ts
open PySem PySem.Spec PyProof.Rows L2 L2H LamX
/-! ## try .. except (A, B, C) as e -/
/-! ## defs called within an except suite: they know the error that is handled -/
section
variable {X : Cx} {k : Nat} {x : Str} {ps : List Str} {sp : Addr × Obj → Sp} {p : Addr × Obj} {q pos : Pos} {e : Expr} {es : List Expr} {t : TA}
/-! ## what an error that is handled is asked -/
/-- an error at p: its class, its fields -/
def ErrAt (H : Hp) (p : Addr × Obj) (C : Addr) (fs : List (Str × V)) : Prop := (∃ vs, p.2.data = Data.fields vs) ∧ ((∃ d, Zc (.ref C) (some d) p.2 ∧ H d = some (.xd fs)) ∨ (Zc (.ref C) none p.2 ∧ fs = []))
theorem ErrAt.mono {H H' : Hp} {p : Addr × Obj} {C : Addr} {fs : List (Str × V)} (h : ErrAt H p C fs) (s : Same H H') : ErrAt H' p C fs := by
  obtain ⟨h2, ⟨d, h1, h3⟩ | h1⟩ := h
  · exact ⟨h2, .inl ⟨d, h1, s _ _ h3⟩⟩
  · exact ⟨h2, .inr h1⟩
end
/-! ## own errors of one field are raised -/
end Ts
namespace Ts
open PySem PySem.Spec PyProof.Rows L2 L2H LamX
/-! ## lists of truths: how often, and where first -/
/-! ## the classes of errors that the laws tell apart -/
structure Cls11 where
  (t n m s g l o f u y a : Addr)
abbrev Cls11.list (c : Cls11) : List Addr := [c.t, c.n, c.m, c.s, c.g, c.l, c.o, c.f, c.u, c.y, c.a]
end Ts
namespace Ts
open PySem PySem.Spec PyProof.Rows L2 L2H LamX
/-! ## repr of any data -/
theorem call_reprV {X : Cx} (hg : X.A.guards = some []) (hu : X.A.units + 100 < cLine) : CallR X (.builtin "repr") (fun xs H Q => ∃ v d, xs = [v] ∧ Dp X.K H v d ∧ d.showable = true ∧ d.hasDict = false ∧ d.depth < 60 ∧ d.shown.length ≤ sizeLine ∧ Q (.str d.shown) H) := by
  intro pins s σ H xs us Q I r h
  obtain ⟨v, d, rfl, hd, h1, h2, h3, h4, q⟩ := h
  cases hd with
  | non =>
    obtain ⟨u, rfl, ru⟩ := vals1 r
    cases ru
    exact PySem.P.repr_of_none ⟨.str _, H, I.tok _, ⟨_, rfl⟩, q⟩
  | bl b =>
    obtain ⟨u, rfl, ru⟩ := vals1 r
    cases ru
    exact PySem.P.repr_of_bool ⟨.str _, H, I.tok _, ⟨_, rfl⟩, q⟩
  | int i =>
    obtain ⟨u, rfl, t, rfl⟩ := vals1 r
    exact PySem.P.repr_of_int (of_decide_eq_true h1) ⟨.str _, H, I.tok _, ⟨_, rfl⟩, q⟩
  | str x =>
    obtain ⟨u, rfl, t, rfl⟩ := vals1 r
    exact PySem.P.repr_of_str ⟨.str _, H, I.tok _, ⟨_, rfl⟩, q⟩ h4
  | lst a1 a2 => exact call_reprD hg hu pins s σ H _ _ Q I r ⟨_, _, rfl, .lst a1 a2, h1, h2, h3, h4, q⟩
  | tup a1 a2 => exact call_reprD hg hu pins s σ H _ _ Q I r ⟨_, _, rfl, .tup a1 a2, h1, h2, h3, h4, q⟩
end Ts
namespace Ts
open PySem PySem.Spec PyProof.Rows L2 L2H LamX
/-- what repr says of a value -/
def ShownV (K : PySem.W.Frag) (H : Hp) (v : V) (t : Str) : Prop := ∃ d, Dp K H v d ∧ d.showable = true ∧ d.hasDict = false ∧ d.depth < 60 ∧ d.shown.length ≤ sizeLine ∧ t = d.shown
theorem ShownV.mono {K : PySem.W.Frag} {H H' : Hp} {v : V} {t : Str} (h : ShownV K H v t) (s : Same H H') : ShownV K H' v t := by
  obtain ⟨d, h1, h2⟩ := h
  exact ⟨d, h1.mono s, h2⟩
end Ts
namespace Ts
open PySem PySem.Spec PyProof.Rows L2 L2H LamX
/-! ## defs that make lambdas: their code is known -/
/-- a def that stands at the top under its name, its code at c -/
structure DefAtC (K : PySem.W.Frag) (mg : Str → Option Value) (x : Str) (st : Stmt) (c : Addr) : Prop where
  ex : ∃ f fd, Fun K x x st f fd ∧ mg x = some (.ref f) ∧ fd.code = .ref c
theorem DefAtC.hasG {P : Program} {w : World} {K : PySem.W.Frag} {mg : Str → Option Value} {base : Heap} {x : Str} {st : Stmt} {k : Nat} {c : Addr} {ps : List Str} {sp : Sp} (D : DefAtC K mg x st c)
    (hb : ∀ (kV doc pm : Value) (an : Option Addr) (cdv ct : Value) (us : List Value), us.length = ps.length → bindArgs (PySem.W.fnOf x x (defArgs st) (defBody st) (defScope st) .none kV doc pm an cdv ct) ⟨us, []⟩ = pure (ps.zip us))
    (ok : ∀ f fd, Fun K x x st f fd → fd.code = .ref c → FnG P w K mg base k f fd ps sp) : HasG P w K mg base k x ps sp := by
  obtain ⟨f, fd, F, hm, hc⟩ := D.ex
  exact ⟨f, fd, ok f fd F hc, hm, F.kp, F.binds hb⟩
/-! ## the law, where lambdas are made -/
end Ts
namespace Ts
open PySem PySem.Spec PyProof.Rows L2 L2H LamX
/-! ## defs that raise -/
/-! ## values of any kind -/
/-- what a number is asked: o is the number, none what is no integer -/
def KindV (K : PySem.W.Frag) (H : Hp) (v : V) : Option Int → Prop
  | some i => v = .int i
  | none => ∃ T, T ∈ ["bool", "str", "NoneType", "list", "tuple", "dict"] ∧ TyX K H v (.type T)
theorem TyX.mono {K : PySem.W.Frag} {H H' : Hp} {x : V} {t : Value} (h : TyX K H x t) (s : Same H H') : TyX K H' x t := by
  cases h with
  | base b => exact .base (match b with
    | .non => .non
    | .bl x => .bl x
    | .int i => .int i
    | .str x => .str x
    | .flt x => .flt x
    | .lst e => .lst (s _ _ e)
    | .frz e => .frz (s _ _ e)
    | .tup e => .tup (s _ _ e)
    | .dK e => .dK (s _ _ e)
    | .dT e => .dT (s _ _ e)
    | .ins e a b c d f => .ins (s _ _ e) a b c d f)
  | byt b => exact .byt b
  | set e => exact .set (s _ _ e)
  | kList e c => exact .kList e c
  | kTuple e c => exact .kTuple e c
  | kDict e c => exact .kDict e c
  | fTuple e => exact .fTuple (s _ _ e)
  | fDict e => exact .fDict (s _ _ e)
theorem KindV.mono {K : PySem.W.Frag} {H H' : Hp} {v : V} {o : Option Int} (h : KindV K H v o) (s : Same H H') : KindV K H' v o := by
  cases o with
  | some i => exact h
  | none => obtain ⟨T, h1, h2⟩ := h; exact ⟨T, h1, TyX.mono h2 s⟩
def inRg (o : Option Int) (lo hi : Int) : Bool := match o with
  | some i => decide (lo ≤ i ∧ i ≤ hi)
  | none => false
def spIsNumberFromA (K : PySem.W.Frag) : Sp := fun vs H Q _ => ∃ (v : V) (lo : Int) (o : Option Int), vs = [v, .int lo] ∧ KindV K H v o ∧ Q (.bl (match o with | some i => decide (lo ≤ i) | none => false)) H
def spIsNumberA (K : PySem.W.Frag) : Sp := fun vs H Q _ => ∃ (v : V) (lo hi : Int) (o : Option Int), vs = [v, .int lo, .int hi] ∧ KindV K H v o ∧ Q (.bl (inRg o lo hi)) H
/-- an error of the class at C that keeps v under fld -/
def Raise1 (C : Addr) (fld : Str) (v : V) (H : Hp) (E : XK) : Prop := ∀ (H' : Hp) (d : Addr), Same H H' → H' d = none → E (.ref C) (some d) (upd H' d (.xd [(fld, v)]))
/-- a thing that may be a log: none what is no tuple, else what its elements are -/
def ThingAt (K : PySem.W.Frag) (H : Hp) (v : V) : Option (List (Option Int)) → Prop
  | some os => ∃ (p : Addr) (xs : List V), v = .ref p ∧ H p = some (.tup xs) ∧ xs.length = os.length ∧ ∀ (i : Nat) (x : V) (o : Option Int), xs[i]? = some x → os[i]? = some o → KindV K H x o
  | none => ∃ T, T ∈ ["int", "bool", "str", "NoneType", "list", "dict"] ∧ TyX K H v (.type T)
theorem ThingAt.mono {K : PySem.W.Frag} {H H' : Hp} {v : V} {t : Option (List (Option Int))} (h : ThingAt K H v t) (s : Same H H') : ThingAt K H' v t := by
  cases t with
  | none => obtain ⟨T, h1, h2⟩ := h; exact ⟨T, h1, TyX.mono h2 s⟩
  | some os => obtain ⟨p, xs, h1, h2, h3, h4⟩ := h; exact ⟨p, xs, h1, s _ _ h2, h3, fun i x o a b => (h4 i x o a b).mono s⟩
end Ts
namespace Ts
open PySem PySem.Spec PyProof.Rows L2 L2H LamX
/-! ## a block whose first statement always leaves -/
/-! ## what stays where draws are made and lambdas -/
/-- all but what stands at b and the tables of code stays -/
def Ext2 (b : Addr) (H H' : Hp) : Prop := ∀ a o, a ≠ b → (∀ ps, o ≠ .tbl ps) → H a = some o → H' a = some o
theorem Ext2.refl {b : Addr} {H : Hp} : Ext2 b H H := fun _ _ _ _ h => h
theorem Ext2.trans {b : Addr} {H H1 H2 : Hp} (x : Ext2 b H H1) (y : Ext2 b H1 H2) : Ext2 b H H2 := fun a o n t h => y a o n t (x a o n t h)
theorem Ext2.but {b : Addr} {H H' : Hp} (x : But b H H') : Ext2 b H H' := fun a o n _ h => x a o n h
theorem Ext2.same {b : Addr} {H H' : Hp} (x : Same H H') : Ext2 b H H' := fun a o _ _ h => x a o h
theorem Ext2.ext {b : Addr} {H H' : Hp} (x : ExtN H H') : Ext2 b H H' := fun a o _ t h => x a o h t
def isTbl : HO → Bool
  | .tbl _ => true
  | _ => false
theorem isTbl_no {o : HO} (h : isTbl o = false) : ∀ ps, o ≠ .tbl ps := fun ps z => by rw [z] at h; cases h
theorem isTbl_of {o : HO} (h : ∀ ps, o ≠ .tbl ps) : isTbl o = false := by
  cases o <;> first | rfl | exact absurd rfl (h _)
/-- the heap without what stands at b and without tables -/
def hid2 (b : Addr) (H : Hp) : Hp := fun a => if a = b then none else match H a with
  | some o => if isTbl o = true then none else some o
  | none => none
theorem hid2_some {b a : Addr} {H : Hp} {o : HO} (h : hid2 b H a = some o) : a ≠ b ∧ (∀ ps, o ≠ .tbl ps) ∧ H a = some o := by
  unfold hid2 at h
  split at h
  · cases h
  · split at h
    · rename_i n _ o' e
      split at h
      · cases h
      · rename_i c
        cases h
        exact ⟨n, isTbl_no (by simpa using c), e⟩
    · cases h
theorem hid2_of {b a : Addr} {H : Hp} {o : HO} (n : a ≠ b) (t : ∀ ps, o ≠ .tbl ps) (h : H a = some o) : hid2 b H a = some o := by
  unfold hid2
  rw [if_neg n, h]
  show (if isTbl o = true then none else some o) = some o
  rw [isTbl_of t]; rfl
theorem hid2_sub {b : Addr} {H : Hp} : Same (hid2 b H) H := fun a o h => (hid2_some h).2.2
theorem Ext2.hid {b : Addr} {H H' : Hp} (x : Ext2 b H H') : Same (hid2 b H) (hid2 b H') := fun a o h => by
  obtain ⟨n, t, e⟩ := hid2_some h
  exact hid2_of n t (x a o n t e)
theorem hid2_ext {b : Addr} {H H' : Hp} (x : ExtN H H') : Same (hid2 b H) (hid2 b H') := (Ext2.ext x).hid
theorem Bas.ext {b : Addr} {H H' : Hp} (h : Bas H b) (x : ExtN H H') : Bas H' b := by
  obtain ⟨u, v, w, e⟩ := h
  exact ⟨u, v, w, x _ _ e fun ps z => nomatch z⟩
/-! ## values of any kind: what they are by their data -/
def kindD : PyData → Option Int
  | .int i => some i
  | _ => none
theorem SqT.ty {K : PySem.W.Frag} {H : Hp} {a : Addr} {xs : List V} (h : SqT K H a xs) : TyX K H (.ref a) (.type "tuple") := by
  rcases h with (h | ⟨o, h⟩) | ⟨o, its, n, h1, h2, _⟩
  · exact .base (.tup h)
  · exact .fTuple h
  · exact .kTuple h1 h2
theorem SqL.ty {K : PySem.W.Frag} {H : Hp} {a : Addr} {xs : List V} (h : SqL K H a xs) : TyX K H (.ref a) (.type "list") := by
  rcases h with (h | ⟨o, h⟩) | ⟨o, its, n, h1, h2, _⟩
  · exact .base (.lst h)
  · exact .base (.frz h)
  · exact .kList h1 h2
theorem dp_kind {K : PySem.W.Frag} {H : Hp} {v : V} {d : PyData} (h : Dp K H v d) : KindV K H v (kindD d) := by
  cases h with
  | non => exact ⟨"NoneType", by decide, .base .non⟩
  | bl b => exact ⟨"bool", by decide, .base (.bl b)⟩
  | int i => rfl
  | str x => exact ⟨"str", by decide, .base (.str x)⟩
  | lst h a => exact ⟨"list", by decide, SqL.ty h⟩
  | tup h a => exact ⟨"tuple", by decide, SqT.ty h⟩
/-- a thing: a tuple of data, or a value that is no tuple -/
def ThingP (K : PySem.W.Frag) (H : Hp) (v : V) : Option (List PyData) → Prop
  | some ds => ∃ (p : Addr) (xs : List V), v = .ref p ∧ H p = some (.tup xs) ∧ DpAll K H xs ds ∧ ds.length ≤ 3000 ∧ SeqAt.shaped (.tuple ds) = true
  | none => ∃ T, T ∈ ["int", "bool", "str", "NoneType", "list", "dict"] ∧ TyX K H v (.type T)
theorem ThingP.mono {K : PySem.W.Frag} {H H' : Hp} {v : V} {t : Option (List PyData)} (h : ThingP K H v t) (s : Same H H') : ThingP K H' v t := by
  cases t with
  | none => obtain ⟨T, h1, h2⟩ := h; exact ⟨T, h1, TyX.mono h2 s⟩
  | some os => obtain ⟨p, xs, h1, h2, h3, h4⟩ := h; exact ⟨p, xs, h1, s _ _ h2, h3.mono s, h4⟩
def kinds (t : Option (List PyData)) : Option (List (Option Int)) := t.map fun ds => ds.map kindD
theorem ThingP.at {K : PySem.W.Frag} {H : Hp} {v : V} {t : Option (List PyData)} (h : ThingP K H v t) : ThingAt K H v (kinds t) := by
  cases t with
  | none => exact h
  | some ds =>
    obtain ⟨p, xs, h1, h2, h3, h4⟩ := h
    refine ⟨p, xs, h1, h2, by rw [List.length_map]; exact h3.length, fun i x o e1 e2 => ?_⟩
    obtain ⟨d, hd, hv⟩ := h3.get e1
    rw [List.getElem?_map, hd] at e2
    cases Option.some.inj e2
    exact dp_kind hv
end Ts
namespace Ts
open PySem PySem.Spec PyProof.Rows L2
/-! ## a tuple turned about: t[::-1] -/
section
variable {prog : Program} {w : World} {A : Around} {E : Value → Shared → Prop} {s : Shared}
theorem back_adjust (n : Nat) : Builtin.Slice.sliceAdjust none none (-1) (n : Int) = ((n : Int) - 1, -1) := rfl
theorem back_places (n : Nat) : Builtin.Slice.slicePlaces ((n : Int) - 1) (-1) (-1) = n := by
  unfold Builtin.Slice.slicePlaces
  have h1 : ((-1 : Int) > 0) = False := by simp
  simp only [h1, if_false]
  by_cases h : n = 0
  · subst h; rfl
  · first
      | (simp; omega)
      | (rw [if_pos (by omega)]; omega)
theorem back_applied {sl : Addr} {vs : Value} {n : Nat} {Q : Int × Int × Nat → Shared → Prop} (hs : s.heap.IsSliceOf sl .none .none vs) (pv : IsPart vs (some (-1)))
    (h : Q ((n : Int) - 1, -1, n) s) : wpAny (model prog w) A (Builtin.Slice.sliceApplied (.ref sl) (pure (n : Int))) Q E s := by
  obtain ⟨os, hos, hcs, hds⟩ := id hs
  unfold Builtin.Slice.sliceApplied Builtin.Slice.sliceFields
  refine wpAny_bind (wpAny_bind (wpAny_field hos hds (x := .none) rfl (wpAny_bind (wpAny_field hos hds (x := .none) rfl (wpAny_bind (wpAny_field hos hds (x := vs) rfl (wpAny_pure ?_)))))))
  refine wpAny_bind (HT.slicePart_ pv ?_)
  show wpAny _ _ (if ((-1 : Int) == 0) = true then _ else _) _ _ s
  rw [if_neg (by decide)]
  refine wpAny_bind (slicePart_none (wpAny_bind (slicePart_none (wpAny_bind (wpAny_pure ?_)))))
  show wpAny _ _ (match Builtin.Slice.sliceAdjust none none (-1) (n : Int) with | (lo, hi) => pure (lo, (-1 : Int), Builtin.Slice.slicePlaces lo hi (-1))) _ _ s
  rw [back_adjust]
  show wpAny _ _ (pure ((n : Int) - 1, (-1 : Int), Builtin.Slice.slicePlaces ((n : Int) - 1) (-1) (-1))) _ _ s
  rw [back_places]
  exact wpAny_pure h
theorem back_pick (xs : Array Value) : ((List.range xs.size).filterMap fun (m : Nat) => xs[((xs.size : Int) - 1 + (m : Int) * (-1)).toNat]?).toArray = xs.toList.reverse.toArray := by
  have e : (fun (m : Nat) => xs[((xs.size : Int) - 1 + (m : Int) * (-1)).toNat]?) = fun m => (xs[·]?) (xs.size - 1 - m) := by
    funext m
    have : ((xs.size : Int) - 1 + (m : Int) * (-1)).toNat = xs.size - 1 - m := by omega
    rw [this]
  have e2 : (List.range xs.size).filterMap (fun m => (xs[·]?) (xs.size - 1 - m)) = ((List.range xs.size).map fun k => xs.size - 1 - k).filterMap (xs[·]?) := by
    rw [List.filterMap_map]; rfl
  rw [e, e2, PySem.W.krv_range, List.filterMap_reverse, PySem.W.krv_all]
theorem getItem_back {t sl : Addr} {items : Array Value} {vs : Value} {Q : Value → Shared → Prop} (ht : IsTup s.heap t items) (hs : s.heap.IsSliceOf sl .none .none vs) (pv : IsPart vs (some (-1)))
    (h : Q (.ref s.heap.objs.size) { s with heap := s.heap.push { cls := .type "tuple", data := .seq items.toList.reverse.toArray } }) (hsz : items.size ≤ sizeLine) : wpAny (model prog w) A (getItem (.ref t) (.ref sl)) Q E s := by
  have fit : sizeOk (.seq items.toList.reverse.toArray) := by
    show items.toList.reverse.toArray.size ≤ sizeLine
    rw [List.size_toArray, List.length_reverse, Array.length_toList]; exact hsz
  obtain ⟨os, hos, hcs, hds⟩ := id hs
  have hTs : s.TypeIs (.ref sl) "slice" := ⟨os, hos, hcs⟩
  unfold getItem
  try with_reducible refine wpAny_holding ?_
  first | refine wpAny_bind (wpAny_pure ?_) | skip
  refine wpAny_bind (wpAny_sequenceKey ht.typeIs (by decide) ?_)
  refine wpAny_bind (wpAny_callSpecial?_slot (name := Str.ofString "__getitem__") ht.typeIs PyProof.Rows.slot_tuple_getitem (wpAny_call_entry PyProof.Rows.slot_tuple_getitem ht.typeIs entry_tuple_getitem ?_ (args_tuple_getitem _ _)))
  show wpAny _ _ (Builtin.Tuple.tupleItemsOf (.ref t) >>= _) _ _ s
  refine wpAny_bind (tupleItemsOf_ ht (wpAny_bind (wpAny_typeOf hTs ?_)))
  rw [if_pos (by decide)]
  refine wpAny_bind (back_applied hs pv ?_)
  show wpAny _ _ (if (((items.size : Int) - 1) == 0 && (-1 : Int) == 1 && items.size == items.size) = true then _ else _) _ _ s
  rw [if_neg (by rw [show ((-1 : Int) == 1) = false from rfl, Bool.and_false, Bool.false_and]; decide), back_pick]
  first
    | exact wpAny_bind (m := Builtin.Tuple.tupleExact _) (wpAny_newObj_type (wpAny_pure ⟨_, rfl, wpAny_pure h⟩) fit)
    | exact wpAny_bind (m := Builtin.Tuple.tupleExact _) (wpAny_newObj_type (wpAny_bind (wpAny_pure (wpAny_pure ⟨_, rfl, wpAny_pure h⟩))) fit)
    | exact wpAny_bind (wpAny_bind (m := Builtin.Tuple.tupleExact _) (wpAny_newObj_type (wpAny_pure (wpAny_pure ⟨_, rfl, wpAny_pure h⟩)) fit))
    | exact wpAny_bind (wpAny_bind (m := Builtin.Tuple.tupleExact _) (wpAny_newObj_type (wpAny_pure ⟨_, rfl, wpAny_pure h⟩) fit))
end
def tRevT (K : PySem.W.Frag) (te : TE) : TE := fun σ H Q => te σ H fun x H1 => ∃ a xs, x = .ref a ∧ SqT K H1 a xs ∧ ∀ p, H1 p = none → Q (.ref p) (upd H1 p (.tup xs.reverse))
theorem pe_revT {X : Cx} {e : Expr} {te : TE} {k : Nat} {p1 p2 p3 pos : Pos} (he : PE X e te) : PE X (.Subscript e (.Slice none none (some (.UnaryOp .USub (.Constant (.int 1) k p1) p2)) p3) pos) (tRevT X.K te) := by
  refine ⟨fun pins s σ H Q I h => ?_⟩
  refine Subscript_ (thn (he.run pins s σ H _ I h) fun v s1 ⟨x, H1, I1, r1, q1⟩ => ?_)
  obtain ⟨a, xs, ex, hx, q⟩ := q1
  subst ex
  cases r1
  have hst : PO X (some (.UnaryOp .USub (.Constant (.int 1) k p1) p2)) (tPart (tUn (rU fun i => .int (-i)) (tC (.int 1)))) := po_some (pe_un un_neg pe_int)
  refine wpAny_Slice (thn (po_none.run pins s1 σ H1 (fun o H2 => o = none ∧ H2 = H1) I1 ⟨rfl, rfl⟩) fun vl s2 ⟨l, H2, I2, pl, el, e2⟩ => ?_)
  subst el e2
  refine thn (po_none.run pins s2 σ H2 (fun o H3 => o = none ∧ H3 = H2) I2 ⟨rfl, rfl⟩) fun vu s3 ⟨u, H3, I3, pu, eu, e3⟩ => ?_
  subst eu e3
  refine thn (hst.run pins s3 σ H3 (fun o H4 => o = some (-1) ∧ H4 = H3) I3 ⟨1, rfl, -1, rfl, rfl, rfl⟩) fun vs s4 ⟨o, H4, I4, ps, eo, e4⟩ => ?_
  subst eo e4
  have I5 : Inv X pins σ H4 { s4 with heap := s4.heap.push { cls := .type "slice", data := .fields #[vl, vu, vs] } } := I4.kept (t' := s4.toks) fun b ob q => Heap.get?_push_of_some _ q
  obtain ⟨its, r, ht, hz⟩ := I5.tuple hx
  have hlen := r.length
  cases pl
  cases pu
  show wpAny (model X.prog X.w) X.A (subscriptTail e (.Slice none none (some (.UnaryOp .USub (.Constant (.int 1) k p1) p2)) p3) (.ref a) (.ref s4.heap.objs.size)) (EP X pins σ Q) X.xe { s4 with heap := s4.heap.push { cls := .type "slice", data := .fields #[.none, .none, vs] } }
  refine tail_any (ops := [.ref a, .ref s4.heap.objs.size]) ht.typeIs (PyProof.Rows.slot_tuple_getitem.lookup) ?_ (by with_unfolding_all rfl)
  refine getItem_back ht (Heap.IsSliceOf.new _ .none .none vs) ps ?_ (by rw [List.size_toArray]; omega)
  refine ⟨.ref _, _, I5.laid (t' := s4.toks) (o := .tup xs.reverse) (fun b ob q => Heap.get?_push_of_some _ q) (Nat.le_refl _) ?_, rfl, q _ (I5.hok.fresh (Nat.le_refl _))⟩
  exact ⟨by rw [List.length_reverse]; exact hz, _, r.reverse, IsTup.new _ _⟩
/-- a block within a block -/
theorem relabel_known {f : Str × NameKind → Str × NameKind} (hf : ∀ p, (f p).1 = p.1 ∧ ((f p).2 = p.2 ∨ (p.2 = .free ∧ (f p).2 = .cell))) {y : Str} : ∀ {names : List (Str × NameKind)}, (names.lookup y = some .cell ∨ names.lookup y = some .free) → ((names.map f).lookup y = some .cell ∨ (names.map f).lookup y = some .free)
  | [], h => by rcases h with h | h <;> cases h
  | p :: r, h => by
    obtain ⟨h1, h2⟩ := hf p
    have ih := @relabel_known f hf y r
    have e1 : (p :: r).lookup y = if y == p.1 then some p.2 else r.lookup y := by
      obtain ⟨n, k⟩ := p
      rw [List.lookup_cons]; cases y == n <;> rfl
    have e2 : ((p :: r).map f).lookup y = if y == p.1 then some (f p).2 else (r.map f).lookup y := by
      rw [List.map_cons]
      generalize f p = q at h1 h2 ⊢
      obtain ⟨n2, k2⟩ := q
      simp only at h1 h2 ⊢
      rw [List.lookup_cons, h1]; cases y == p.1 <;> rfl
    rw [e1] at h
    rw [e2]
    cases hx : y == p.1 with
    | true =>
      rw [hx] at h
      simp only [if_true] at h ⊢
      rcases h2 with h2 | ⟨_, h2⟩
      · rw [h2]; exact h
      · rw [h2]; exact .inl rfl
    | false =>
      rw [hx] at h
      simp only [Bool.false_eq_true, if_false] at h ⊢
      exact ih h
theorem blkOk_in {X : Cx} {s : Shared} {H : Hp} {scope1 scope : Scope} {cl : List (Str × Addr)} {C : Addr} {env : Env} {fp : List Addr} {N : List Str} {own : List (Str × Nat)} (hN : X.N = N) (h : blkC N scope1 scope own = true) :
    BlkOk (X.blk s H scope1 (compEnvC scope1 cl C env) fp).N (X.blk s H scope1 (compEnvC scope1 cl C env) fp).env.scope scope own := by
  subst hN
  have b := blkOk_by h
  exact ⟨b.kind, b.uniq, b.ix, fun y hy e => by
    refine relabel_known (f := fun p => match p with | (n, k) => if (k == NameKind.free && env.scope.kind == .function && env.kindOf n == some .cell) then (n, NameKind.cell) else (n, k)) (fun p => ?_) (b.free y hy e)
    obtain ⟨n, k⟩ := p
    show ((if (k == NameKind.free && env.scope.kind == .function && env.kindOf n == some .cell) = true then (n, NameKind.cell) else (n, k)).1 = n) ∧ ((if (k == NameKind.free && env.scope.kind == .function && env.kindOf n == some .cell) = true then (n, NameKind.cell) else (n, k)).2 = k ∨ (k = .free ∧ (if (k == NameKind.free && env.scope.kind == .function && env.kindOf n == some .cell) = true then (n, NameKind.cell) else (n, k)).2 = .cell))
    by_cases c : (k == NameKind.free && env.scope.kind == .function && env.kindOf n == some .cell) = true
    · rw [if_pos c]
      refine ⟨rfl, .inr ⟨?_, rfl⟩⟩
      simp only [Bool.and_eq_true] at c
      exact eq_of_beq c.1.1
    · rw [if_neg c]
      exact ⟨rfl, .inl rfl⟩, b.own⟩
end Ts
namespace PySem
open Sem (wp)
namespace TsEnum
set_option maxHeartbeats 1000000 in
theorem enum_new1 {v : Value} {o : Obj} {H : Heap → Prop} (B : Begins v o H) :
    Meets (Builtin.«enumerate.__new__» ⟨[.type "enumerate", v], []⟩) (fun _ R s => H s.heap ∧
      R (.ok (.ret (.ref (s.heap.push o).objs.size))) { s with heap := (s.heap.push o).push { cls := .type "enumerate", data := .fields #[.none, .bool false, .ref s.heap.objs.size, rawInt 0, .none, .none] } }) :=
  .of_wp fun prog w A R s h => by
    obtain ⟨hp, g, d, tk, os⟩ := s; obtain ⟨h1, h⟩ := h
    have es := sub_enumerate
    have q1 : ∀ {A2 : Around} {E : Value → Shared → Prop} {Q : Value → Shared → Prop}, Q (.ref hp.objs.size) ⟨hp.push o, g, d, tk, os⟩ → wpAny (model prog w) A2 (pyIter v) Q E ⟨hp, g, d, tk, os⟩ := fun q => B.iter prog w _ _ ⟨hp, g, d, tk, os⟩ _ h1 q
    wp_walk using q1
    refine wpAny_stack_any fun st => wpAny_pure ?_
    split
    · rename_i c _ _ _ _ _
      cases (c == Value.type "enumerate")
      · (wp_walk using q1); exact ⟨_, rfl, h⟩
      · (wp_walk using q1); exact ⟨_, rfl, h⟩
    · (wp_walk using q1); exact ⟨_, rfl, h⟩
section
variable {prog : Program} {w : World} {A : Around} {E : Value → Shared → Prop} {s : Shared}
theorem enum_one {v : Value} {o : Obj} {H : Heap → Prop} {Q : Value → Shared → Prop} (B : Begins v o H) (h1 : H s.heap)
    (h : ∀ h2, IsEnum h2 (s.heap.objs.size + 1) s.heap.objs.size 0 .none → h2.get? s.heap.objs.size = some o → h2.objs.size = s.heap.objs.size + 2 → (∀ b o, s.heap.get? b = some o → h2.get? b = some o) → Q (.ref (s.heap.objs.size + 1)) { s with heap := h2 }) :
    wpAny (model prog w) A (call (.type "enumerate") [v]) Q E s := by
  refine callType_new F.called_enumerate (by decide) (F.typeCall_enumerate_1 _) (F.newCall_enumerate_1 _) (fun obj => F.args_object_init_2 obj _) F.entry_enumerate_new (enum_new1 B) ⟨h1, ?_⟩
  have hz : (s.heap.push o).objs.size = s.heap.objs.size + 1 := Heap.size_push ..
  show _ ∧ _
  rw [hz]
  have he : IsEnum ((s.heap.push o).push { cls := .type "enumerate", data := .fields #[.none, .bool false, .ref s.heap.objs.size, rawInt 0, .none, .none] }) (s.heap.objs.size + 1) s.heap.objs.size 0 .none := by
    have z := Heap.get?_push_size (s.heap.push o) (o := { cls := .type "enumerate", data := .fields #[.none, .bool false, .ref s.heap.objs.size, rawInt 0, .none, .none] }) rfl
    rw [hz] at z; exact z
  exact ⟨⟨_, he, rfl⟩, h _ he (Heap.get?_push_of_some _ (Heap.get?_push_size _ B.free)) (by rw [Heap.size_push, hz]) fun b o x => Heap.get?_push_of_some _ (Heap.get?_push_of_some _ x)⟩
end
end TsEnum
end PySem
namespace Ts
open PySem PySem.Spec PyProof.Rows L2
/-- the tuple at a, each item in a new pair with its number, from c on -/
def IteT (K : PySem.W.Frag) (a : Addr) (c : Int) : It :=
  ⟨fun i H => ∃ (xs : List V) (x : V), SqT K H a xs ∧ xs[i]? = some x, fun i H v H2 => ∃ T x, v = .ref T ∧ H T = none ∧ H2 = upd H T (.tup [.int (c + (i : Nat)), x]) ∧ ∀ xs, SqT K H a xs → xs[i]? = some x, fun i H => ∃ xs : List V, SqT K H a xs ∧ xs.length ≤ i⟩
theorem turn_enumT {P : Program} {w : World} {K : PySem.W.Frag} {elts : List Expr} {kk : Nat} {tpos : Pos} (a e it : Addr) (c : Int) :
    Turn P w K (.Tuple elts kk tpos) (IteT K a c) [e, it] e (fun i h => (∃ old, IsEnum h e it (c + ((i : Nat) : Int)) old) ∧ h.IsTupleIter it a i ∧ e ≠ it) where
  mem := by simp
  obj := fun i h st b hb => by
    obtain ⟨⟨old, he⟩, ⟨o, ho, hc, hd⟩, _⟩ := st
    have z : b = e ∨ b = it := by simpa using hb
    rcases z with z | z
    · rw [z]; exact ⟨_, he, fun v q => nomatch q⟩
    · rw [z]; exact ⟨o, ho, fun v q => by rw [hd] at q; cases q⟩
  keep := fun i h h2 st k => let ⟨⟨old, he⟩, hi, hne⟩ := st; ⟨⟨old, k e (by simp) _ he⟩, hi.at fun o q => k it (by simp) o q, hne⟩
  item := by
    intro X hP hw hK hc i pins s σ H E I hf st hg
    subst hP hw hK
    obtain ⟨⟨old, he⟩, hit, hne⟩ := st
    obtain ⟨xs, x, hq, hx⟩ := hg
    obtain ⟨its, rv, p, hz⟩ := I.tuple hq
    have p2 : s.heap.IsTuple a its.toArray := p
    obtain ⟨u, hu, ru⟩ := rv.get hx
    have hel : e < s.heap.objs.size := Heap.lt_size he
    have hil : it < s.heap.objs.size := by obtain ⟨_, q, _⟩ := hit; exact Heap.lt_size q
    have nae : a ≠ it := fun z => by
      obtain ⟨o1, e1, c1, _⟩ := hit
      obtain ⟨o2, e2, c2, _⟩ := p2
      rw [z, e1] at e2
      cases e2
      rw [c1] at c2
      exact absurd (Value.type.inj c2) (by decide)
    have hae : e ∉ [it, a] := fun z => by
      have z : e = it ∨ e = a := by simpa using z
      rcases z with z | z
      · exact hne z
      · obtain ⟨o2, e2, c2, _⟩ := p2
        rw [← z, he] at e2
        cases e2
        exact absurd (Value.type.inj c2) (by decide)
    have hlt : i < its.toArray.size := by
      have := (List.getElem?_eq_some_iff.mp hu).1
      simpa using this
    refine wpAny_pyNext_enum_itemC (Draws.tuple (prog := X.prog) (w := X.w) (A := X.A.in1) (show X.A.in1.handled = none from I.ok.hd hc) it a nae its.toArray) he ⟨hit, p2⟩ hlt hne hae fun y h2 tk hy ho st2 hT hsz hk => ?_
    have ey : y = u := by
      have hy2 : its.toArray[i]? = some y := hy
      rw [List.getElem?_toArray, hu] at hy2
      exact (Option.some.inj hy2).symm
    subst ey
    refine ⟨_, rfl, wpAny_letOwnedTupleGo_enum (s := { s with heap := h2, toks := tk + 1 }) ho fun h3 he3 sb => ?_⟩
    have hT2 : h3.get? s.heap.objs.size = some { cls := .type "tuple", data := .seq #[.int (c + (i : Int)) tk, y] } := (sb.2 _ (Nat.ne_of_gt hel)).trans hT
    have new : ObjOk X.prog X.w (upd H s.heap.objs.size (.tup [.int (c + (i : Nat)), x])) h3 s.heap.objs.size (.tup [.int (c + (i : Nat)), x]) :=
      ⟨by show 2 ≤ sizeLine; decide, [.int (c + (i : Int)) tk, y], .cons ⟨_, rfl⟩ (.cons ru .nil), ⟨_, hT2, rfl, _, rfl⟩⟩
    have I1 : Inv X pins σ (upd H s.heap.objs.size (.tup [.int (c + (i : Nat)), x])) { s with heap := h3, toks := tk + 1 } :=
      I.turnedNew (ch := [e, it]) (fun b ob hb q => (sb.2 b (fun z => hb (by simp [z]))).trans (hk b ob (fun z => hb (by simp [z])) (fun z => hb (by simp [z])) q)) hf (Nat.le_refl _) new
    refine ⟨.ref s.heap.objs.size, _, I1, rfl, ⟨_, x, rfl, I.hok.fresh (Nat.le_refl _), rfl, fun ys hy => by rw [I.tuple_inj hy hq]; exact hx⟩, ⟨⟨y, ?_⟩, st2.1.at fun o q => (sb.2 it (Ne.symm hne)).trans q, hne⟩, fun b hb => ?_⟩
    · have e1 : c + ((i + 1 : Nat) : Int) = c + (i : Int) + 1 := by omega
      rw [e1]; exact he3
    · have lt : b < s.heap.objs.size := by
        have z : b = e ∨ b = it := by simpa using hb
        rcases z with z | z
        · rw [z]; exact hel
        · rw [z]; exact hil
      rw [upd_ne (Nat.ne_of_lt lt)]
      exact (hf b hb).1
  done := by
    intro X hP hw hK hc i pins s σ H E I hf st hg
    subst hP hw hK
    obtain ⟨⟨old, he⟩, hit, hne⟩ := st
    obtain ⟨xs, hq, hx⟩ := hg
    obtain ⟨its, rv, p, hz⟩ := I.tuple hq
    have p2 : s.heap.IsTuple a its.toArray := p
    obtain ⟨f0, f1, f2, f3, f4, f5⟩ := hf it (by simp)
    have hl := rv.length
    have hT : s.TypeIs (.ref e) "enumerate" := ⟨_, he, rfl⟩
    unfold pyNext
    refine wpAny_bind (wpAny_attempt (wpAny_callSpecial?_slot (name := Str.ofString "__next__") hT F.slot_enumerate_next (wpAny_call_entry F.slot_enumerate_next hT F.entry_enumerate_next ?_ (F.args_enumerate_next_1 _))))
    show wpAny _ _ (field (.ref e) 2 >>= _) _ _ _
    refine wpAny_bind (wpAny_field he rfl (x := .ref it) rfl ?_)
    refine wpAny_bind (wpAny_nextOf_tuple_end (I.ok.hd hc) hit p2 (by simp; omega) fun h2 x eb hx2 => ?_)
    obtain ⟨o, ho, hcl⟩ := hx2
    refine wpAny_bind (wpAny_isInstance (T := "StopIteration") (b := true) ⟨o, ho, hcl⟩ isSubtype_stop ?_)
    exact wpAny_pure ⟨rfl, I.turned (t' := s.toks) (fun b o hb q => eb b o hb q) f0 f1 f3 f4 f5⟩
  self := fun A i s Q E st h => let ⟨⟨_, he⟩, _⟩ := st; wpAny_pyIter_enum he h
def iEnumT (K : PySem.W.Frag) (ta : TA) : TI := fun σ H R => ta σ H fun vs H1 => ∃ a xs, vs = [.ref a] ∧ SqT K H1 a xs ∧ R (IteT K a 0) H1
section
variable {X : Cx}
theorem pi_enumT {e : Expr} {ta : TA} {p pos tpos : Pos} {elts : List Expr} {kk : Nat} (hg : Gl X "enumerate") (hm : X.mg "enumerate" = none) (ha : PA X [e] ta) (hs : starEach [e] X.env = [(false, eval e X.env)] := by rfl) :
    PI X (.Tuple elts kk tpos) (.Call (.Name "enumerate" p) [e] [] pos) (iEnumT X.K ta) := by
  refine ⟨fun pins s σ H R I h => ?_⟩
  refine Call_ (ld_blt I hg hm boot_enumerate (PyProof.Rows.callWith_type1 (thn (ha.run pos pins s σ H _ I h) fun us s1 ⟨vs, H1, I1, r1, q1⟩ => ?_) hs rfl))
  obtain ⟨a, xs, ex, hq, q⟩ := q1
  subst ex
  rw [Vals.ref1 r1]
  obtain ⟨its, rv, p2, hz⟩ := I1.tuple hq
  refine TsEnum.enum_one (begins_tuple a its.toArray) p2 fun h2 he hit hsz hk => wpAny_pyIter_enum he ?_
  have I2 : Inv X pins σ H1 { s1 with heap := h2 } := I1.kept (t' := s1.toks) hk
  refine ⟨s1.heap.objs.size + 1, [s1.heap.objs.size + 1, s1.heap.objs.size], _, _, H1, rfl, I2, turn_enumT a (s1.heap.objs.size + 1) s1.heap.objs.size 0, ⟨⟨.none, by simpa using he⟩, ⟨_, hit, rfl, rfl⟩, Nat.succ_ne_self _⟩, fun b hb => ?_, q⟩
  have z : b = s1.heap.objs.size + 1 ∨ b = s1.heap.objs.size := by simpa using hb
  have le : s1.heap.objs.size ≤ b := by
    rcases z with z | z
    · rw [z]; exact Nat.le_add_right _ _
    · rw [z]; exact Nat.le_refl _
  exact I1.fpOk le (I1.hok.fresh le)
end
/-- a tuple walked with numbers -/
theorem walk_enumT {K : PySem.W.Frag} {a : Addr} {xs : List V} {c : Int} {g : TG} {tb : TS} {D : Ends} {σ : L2.St} {H : Hp} (Pv : Nat → L2.St → Hp → Prop) (h0 : Pv 0 σ H) (hl : ∀ i σ H, i ≤ xs.length → Pv i σ H → SqT K H a xs)
    (hs : ∀ i x T σ H, xs[i]? = some x → Pv i σ H → H T = none → g (.ref T) σ (upd H T (.tup [.int (c + (i : Nat)), x])) fun σ2 H2 => tb { D with nx := Pv (i + 1), ct := Pv (i + 1), bk := D.nx } σ2 H2) (hd : ∀ σ H, Pv xs.length σ H → D.nx σ H) :
    ∃ W : Nat → Nat → L2.St → Hp → Prop, (∃ m, W 0 m σ H) ∧ ∀ i m σ H, W i m σ H → ((IteT K a c).stop i H ∧ D.nx σ H) ∨ ((IteT K a c).go i H ∧ ∃ N : L2.St → Hp → Prop, (∀ σ' H', N σ' H' → ∃ m', m' < m ∧ W (i + 1) m' σ' H') ∧ ∀ x H', (IteT K a c).yld i H x H' → g x σ H' fun σ2 H2 => tb { D with nx := N, ct := N, bk := D.nx } σ2 H2) := by
  refine ⟨fun i m σ H => m = xs.length - i ∧ i ≤ xs.length ∧ Pv i σ H, ⟨_, rfl, Nat.zero_le _, h0⟩, ?_⟩
  rintro i m σ H ⟨rfl, le, z⟩
  have q := hl i σ H le z
  rcases Nat.lt_or_eq_of_le le with lt | rfl
  · have e : xs[i]? = some xs[i] := by simp [lt]
    refine .inr ⟨⟨xs, xs[i], q, e⟩, Pv (i + 1), fun σ2 H2 z2 => ⟨_, by omega, rfl, lt, z2⟩, ?_⟩
    rintro v _ ⟨T, x, rfl, hT, rfl, hx⟩
    exact hs i x T σ H (hx xs q) z hT
  · exact .inl ⟨⟨xs, q, Nat.le_refl _⟩, hd σ H z⟩
end Ts
namespace Ts
open PySem PySem.Spec PyProof.Rows L2
section
variable {prog : Program} {w : World} {A : Around} {E : Value → Shared → Prop} {s : Shared}
theorem getItem_whole {t sl : Addr} {items : Array Value} {vl vu : Value} {lo hi : Option Int} {Q : Value → Shared → Prop} (ht : IsTup s.heap t items) (hs : s.heap.IsSliceOf sl vl vu .none) (pl : IsPart vl lo) (pu : IsPart vu hi)
    (hw : HT.sIx items.size 0 lo = 0 ∧ HT.sIx items.size items.size hi = items.size) (h : Q (.ref t) s) : wpAny (model prog w) A (getItem (.ref t) (.ref sl)) Q E s := by
  obtain ⟨os, hos, hcs, hds⟩ := id hs
  have hTs : s.TypeIs (.ref sl) "slice" := ⟨os, hos, hcs⟩
  unfold getItem
  try with_reducible refine wpAny_holding ?_
  first | refine wpAny_bind (wpAny_pure ?_) | skip
  refine wpAny_bind (wpAny_sequenceKey ht.typeIs (by decide) ?_)
  refine wpAny_bind (wpAny_callSpecial?_slot (name := Str.ofString "__getitem__") ht.typeIs PyProof.Rows.slot_tuple_getitem (wpAny_call_entry PyProof.Rows.slot_tuple_getitem ht.typeIs entry_tuple_getitem ?_ (args_tuple_getitem _ _)))
  show wpAny _ _ (Builtin.Tuple.tupleItemsOf (.ref t) >>= _) _ _ s
  refine wpAny_bind (tupleItemsOf_ ht (wpAny_bind (wpAny_typeOf hTs ?_)))
  rw [if_pos (by decide)]
  refine wpAny_bind (HT.sliceApplied_gen hs pl pu ?_)
  rw [hw.1, hw.2, Nat.sub_zero]
  show wpAny _ _ (if (((0 : Nat) : Int) == 0 && (1 : Int) == 1 && items.size == items.size) = true then _ else _) _ _ s
  rw [if_pos (by simp)]
  refine wpAny_bind ?_
  unfold Builtin.Tuple.tupleIsExact
  refine wpAny_bind (wpAny_typeOf ht.typeIs (wpAny_pure ?_))
  show wpAny _ _ (if (Value.type "tuple" == Value.type "tuple") = true then _ else _) _ _ s
  rw [if_pos (by decide)]
  exact wpAny_bind (wpAny_rule (wpAny_pure ⟨_, rfl, wpAny_pure h⟩))
end
/-- t[lo:hi], also the whole of it -/
def rSlU (K : PySem.W.Frag) : V → Option Int → Option Int → Hp → VK → Prop := fun x lo hi H Q => ∃ a xs, x = .ref a ∧ SqT K H a xs ∧ ∀ p H', Same H H' → (p = a ∨ H p = none) → SqT K H' p (cutV xs lo hi) → (H a = some (.tup xs) → H' p = some (.tup (cutV xs lo hi))) → Q (.ref p) H'
theorem cut_all {xs : List V} {lo hi : Option Int} (h : HT.sIx xs.length 0 lo = 0 ∧ HT.sIx xs.length xs.length hi = xs.length) : cutV xs lo hi = xs := by
  unfold cutV
  rw [h.1, h.2, List.drop_zero, Nat.sub_zero, List.take_length]
theorem sl_tupU {X : Cx} : SlR X (rSlU X.K) := by
  intro pins s σ H x v vl vu lo hi sl Q I rx hs pl pu h
  obtain ⟨a, xs, rfl, hx, q⟩ := h
  by_cases hw : HT.sIx xs.length 0 lo = 0 ∧ HT.sIx xs.length xs.length hi = xs.length
  · cases rx
    obtain ⟨its, r, ht, hz⟩ := I.tuple hx
    have hlen : its.toArray.size = xs.length := by rw [List.size_toArray]; exact r.length.symm
    refine ⟨"tuple", _, PyProof.Rows.slot_tuple_getitem.lookup, ht.typeIs, ?_⟩
    refine getItem_whole ht hs pl pu (by rw [hlen]; exact hw) ⟨.ref a, H, I, rfl, q a H (fun _ _ z => z) (.inl rfl) (by rw [cut_all hw]; exact hx) (fun z => by rw [cut_all hw]; exact z)⟩
  · exact sl_tup pins s σ H _ v vl vu lo hi sl Q I rx hs pl pu ⟨a, xs, rfl, hx, hw, fun p hp => q p _ (same_new hp) (.inr hp) (SqT.of upd_same) (fun _ => upd_same)⟩
theorem sl_tupUK {X : Cx} {K : PySem.W.Frag} (h : X.K = K) : SlR X (rSlU K) := by subst h; exact sl_tupU
end Ts
namespace Ts
open PySem PySem.Spec PyProof.Rows L2
/-! ## logs -/
def IsLog (ls : List Nat) : Prop := ∀ x ∈ ls, x ≤ 1
abbrev logV (ls : List Nat) : List V := ls.map fun x : Nat => V.int ((x : Nat) : Int)
/-- the bounds as they are after t ticks: a pair of tops and bottoms -/
structure Edge where
  a : Nat
  b : Nat
  c : Nat
  d : Nat
def Edge.step (E : Edge) (h t : Nat) : Edge :=
  ⟨if E.a * t < (h - 1) * E.b then h - 1 else E.a, if E.a * t < (h - 1) * E.b then t else E.b, if (h + 1) * E.d < E.c * t then h + 1 else E.c, if (h + 1) * E.d < E.c * t then t else E.d⟩
/-! ## what is asked -/
abbrev pairI (a b : Int) : PyData := .tuple [.int a, .int b]
def Edge.fits (E : Edge) : Prop := E.a * E.d < E.c * E.b
instance (E : Edge) : Decidable E.fits := by unfold Edge.fits; exact inferInstance
def Edge.has (E : Edge) (e p : Nat) : Prop := E.a * p < e * E.b ∧ e * E.d < E.c * p
instance (E : Edge) (e p : Nat) : Decidable (E.has e p) := by unfold Edge.has; exact inferInstance
/-! ## data of tuples alone -/
inductive TupD : PyData → Prop
  | int (i : Int) : TupD (.int i)
  | non : TupD .none
  | tup {ds : List PyData} (h : ∀ d ∈ ds, TupD d) : TupD (.tuple ds)
theorem DpAll.imp {K : PySem.W.Frag} {H H' : Hp} : ∀ {vs : List V} {ds : List PyData}, DpAll K H vs ds → (∀ d ∈ ds, ∀ v, Dp K H v d → Dp K H' v d) → DpAll K H' vs ds
  | _, _, .nil, _ => .nil
  | _, _, .cons h t, g => .cons (g _ List.mem_cons_self _ h) (DpAll.imp t fun d hd => g d (List.mem_cons_of_mem _ hd))
theorem dp_hideT {K : PySem.W.Frag} {H : Hp} {b : Addr} {l : List V} (hb : H b = some (.lst l)) {d : PyData} (t : TupD d) : ∀ v, Dp K H v d → Dp K (hid b H) v d := by
  induction t with
  | int i => intro v h; cases h.int_eq; exact .int _
  | non => intro v h; cases h; exact .non
  | tup hs ih =>
    intro v h
    obtain ⟨p, xs, rfl, hS, hA⟩ := h.tuple
    exact .tup (seqT_hide hb hS) (DpAll.imp hA ih)
theorem fine_pair {a b : Nat} (h1 : a ≤ 1000000) (h2 : b ≤ 1000000) : Fine 300 1 (pairI (a : Int) (b : Int)) := by
  have k : (1000000 : Int) < 10 ^ 40 := by decide
  generalize ((10 : Int) ^ 40) = c at k
  exact ((FineAll.cons (fine_int (e := 0) (i := (a : Int)) (by omega) (by omega)) (FineAll.cons (fine_int (e := 0) (i := (b : Int)) (by omega) (by omega)) (FineAll.nil (w := 0)))).tup).mono (by decide) (by decide)
/-- a list of logs -/
def LogsAt (H : Hp) (xs : List V) : Prop := ∀ x ∈ xs, ∃ (a : Addr) (ls : List Nat), x = .ref a ∧ H a = some (.tup (logV ls)) ∧ IsLog ls ∧ 1 ≤ ls.length ∧ ls.length ≤ 200
theorem LogsAt.but {b : Addr} {H H' : Hp} {xs : List V} (h : LogsAt H xs) (B : Bas H b) (s : But b H H') : LogsAt H' xs := fun x hx => by
  obtain ⟨a, ls, rfl, e, r⟩ := h x hx
  refine ⟨a, ls, rfl, s a _ (fun z => ?_) e, r⟩
  obtain ⟨x, y, z', e'⟩ := B
  rw [z, e'] at e; cases e
theorem LogsAt.set {pl : Addr} {H : Hp} {xs us : List V} {u : HO} (h : LogsAt H xs) (B : H pl = some (.lst us)) : LogsAt (upd H pl u) xs := fun x hx => by
  obtain ⟨a, ls, rfl, e, r⟩ := h x hx
  refine ⟨a, ls, rfl, ?_, r⟩
  rw [upd_ne (fun z => by rw [z, B] at e; cases e)]; exact e
theorem LogsAt.snoc {H : Hp} {xs : List V} {a : Addr} {ls : List Nat} (h : LogsAt H xs) (e : H a = some (.tup (logV ls))) (hl : IsLog ls) (l1 : 1 ≤ ls.length) (l2 : ls.length ≤ 200) : LogsAt H (xs ++ [.ref a]) := fun x hx => by
  rcases List.mem_append.mp hx with z | z
  · exact h x z
  · rw [List.mem_singleton.mp z]; exact ⟨a, ls, rfl, e, hl, l1, l2⟩
end Ts
namespace Ts
open PySem PySem.Spec PyProof.Rows L2
/-! ## the simplest share between two bounds -/
def topE (E : Edge) (p : Nat) : Nat := E.a * p / E.b + 1
def okAt (E : Edge) (p : Nat) : Prop := topE E p ≤ p ∧ topE E p * E.d < E.c * p
instance (E : Edge) (p : Nat) : Decidable (okAt E p) := by unfold okAt; exact inferInstance
structure IsFirst (E : Edge) (p : Nat) : Prop where
  pos : 1 ≤ p
  ok : okAt E p
  least : ∀ q, 1 ≤ q → q < p → ¬ okAt E q
theorem top_has {E : Edge} (hb : 0 < E.b) (p : Nat) : E.a * p < topE E p * E.b := by
  unfold topE
  rw [Nat.mul_comm _ E.b]
  exact Nat.lt_mul_div_succ _ hb
theorem top_le_of {E : Edge} (hb : 0 < E.b) {e p : Nat} (h : E.a * p < e * E.b) : topE E p ≤ e := (Nat.div_lt_iff_lt_mul hb).mpr h
theorem ok_of {E : Edge} (hb : 0 < E.b) {e p : Nat} (h : E.has e p) (h3 : e ≤ p) : okAt E p := by
  have t := top_le_of hb h.1
  exact ⟨Nat.le_trans t h3, Nat.lt_of_le_of_lt (Nat.mul_le_mul_right _ t) h.2⟩
theorem IsFirst.uniq {E : Edge} {p q : Nat} (h : IsFirst E p) (g : IsFirst E q) : p = q := by
  rcases Nat.lt_trichotomy p q with z | z | z
  · exact absurd h.ok (g.least p h.pos z)
  · exact z
  · exact absurd g.ok (h.least q g.pos z)
theorem IsFirst.has {E : Edge} {p : Nat} (hb : 0 < E.b) (h : IsFirst E p) : E.has (topE E p) p := ⟨top_has hb p, h.ok.2⟩
theorem IsFirst.gcd {E : Edge} {p : Nat} (hb : 0 < E.b) (h : IsFirst E p) : Nat.gcd (topE E p) p = 1 := by
  have g0 : 0 < Nat.gcd (topE E p) p := Nat.gcd_pos_of_pos_right _ h.pos
  rcases Nat.lt_or_eq_of_le (show 1 ≤ Nat.gcd (topE E p) p from g0) with z | z
  · exfalso
    have hh := h.has hb
    generalize hg : Nat.gcd (topE E p) p = g at g0 z
    have d1 : g ∣ topE E p := hg ▸ Nat.gcd_dvd_left _ _
    have d2 : g ∣ p := hg ▸ Nat.gcd_dvd_right _ _
    obtain ⟨x, hx⟩ := d1
    obtain ⟨y, hy⟩ := d2
    have y1 : 1 ≤ y := by
      rcases Nat.eq_zero_or_pos y with w | w
      · rw [w, Nat.mul_zero] at hy; have := h.pos; omega
      · exact w
    have yp : y < p := by
      rw [hy]
      calc y = 1 * y := (Nat.one_mul y).symm
        _ < g * y := Nat.mul_lt_mul_of_pos_right z y1
    refine h.least y y1 yp (ok_of hb (e := x) ⟨?_, ?_⟩ ?_)
    · have k := hh.1
      have e1 : E.a * p = E.a * y * g := by rw [hy, Nat.mul_comm g y, Nat.mul_assoc]
      have e2 : topE E p * E.b = x * E.b * g := by rw [hx, Nat.mul_comm g x, Nat.mul_right_comm]
      rw [e1, e2] at k
      exact Nat.lt_of_mul_lt_mul_right k
    · have k := hh.2
      have e1 : E.c * p = E.c * y * g := by rw [hy, Nat.mul_comm g y, Nat.mul_assoc]
      have e2 : topE E p * E.d = x * E.d * g := by rw [hx, Nat.mul_comm g x, Nat.mul_right_comm]
      rw [e1, e2] at k
      exact Nat.lt_of_mul_lt_mul_right k
    · have k := h.ok.1
      rw [hx] at k
      have k2 : g * x ≤ g * y := by rw [← hy]; exact k
      exact Nat.le_of_mul_le_mul_left k2 g0
  · exact z.symm
end Ts
namespace Ts
open PySem PySem.Spec PyProof.Rows L2
/-! ## pairs of a number and something else sorted: no two of one number -/
section
variable {prog : Program} {w : World} {A : Around} {E : Value → Shared → Prop} {s : Shared}
def KeyRef (h : Heap) (v : Value) (k : Int) (r : Addr) : Prop := ∃ a xs t, v = Value.ref a ∧ IsTup h a xs ∧ xs.toList = [.int k t, .ref r]
theorem KeyRef.keeps {h h' : Heap} {v : Value} {k : Int} {r : Addr} (g : KeyRef h v k r) (kk : ∀ (b : Addr) (o : Obj), h.get? b = some o → o.cls = .type "tuple" → h'.get? b = some o) : KeyRef h' v k r := by
  obtain ⟨a, xs, t, rfl, ⟨o, ho, hc, n, hd⟩, e⟩ := g
  exact ⟨a, xs, t, rfl, ⟨o, kk a o ho hc, hc, n, hd⟩, e⟩
end
end Ts
namespace Ts
open PySem PySem.Spec PyProof.Rows L2
/-! ## all shares between two bounds, ascending -/
abbrev Frc := Nat × Nat
def ltF (x y : Frc) : Prop := x.1 * y.2 < y.1 * x.2
instance (x y : Frc) : Decidable (ltF x y) := by unfold ltF; exact inferInstance
structure IsShares (E : Edge) (n : Nat) (L : List Frc) : Prop where
  up : L.Pairwise ltF
  mem : ∀ x : Frc, x ∈ L ↔ (1 ≤ x.2 ∧ x.2 ≤ n) ∧ (1 ≤ x.1 ∧ x.1 ≤ x.2) ∧ Nat.gcd x.1 x.2 = 1 ∧ E.has x.1 x.2
theorem up_uniq : ∀ {L M : List Frc}, L.Pairwise ltF → M.Pairwise ltF → (∀ x, x ∈ L ↔ x ∈ M) → L = M
  | [], [], _, _, _ => rfl
  | [], y :: M, _, _, h => absurd ((h y).mpr List.mem_cons_self) (by simp)
  | x :: L, [], _, _, h => absurd ((h x).mp List.mem_cons_self) (by simp)
  | x :: L, y :: M, hL, hM, h => by
    obtain ⟨l1, l2⟩ := List.pairwise_cons.mp hL
    obtain ⟨m1, m2⟩ := List.pairwise_cons.mp hM
    have irr : ∀ z : Frc, ¬ ltF z z := fun z h => Nat.lt_irrefl _ h
    have asy : ∀ z u : Frc, ltF z u → ¬ ltF u z := fun z u h g => Nat.lt_asymm h g
    have e : x = y := by
      rcases List.mem_cons.mp ((h x).mp List.mem_cons_self) with z | z
      · exact z
      · rcases List.mem_cons.mp ((h y).mpr List.mem_cons_self) with u | u
        · exact u.symm
        · exact absurd (l1 y u) (asy _ _ (m1 x z))
    subst e
    rw [up_uniq l2 m2 fun z => ?_]
    constructor
    · intro hz
      rcases List.mem_cons.mp ((h z).mp (List.mem_cons_of_mem _ hz)) with u | u
      · exact absurd (u ▸ l1 z hz) (irr _)
      · exact u
    · intro hz
      rcases List.mem_cons.mp ((h z).mpr (List.mem_cons_of_mem _ hz)) with u | u
      · exact absurd (u ▸ m1 z hz) (irr _)
      · exact u
theorem IsShares.uniq {E : Edge} {n : Nat} {L M : List Frc} (h : IsShares E n L) (g : IsShares E n M) : L = M := up_uniq h.up g.up fun x => (h.mem x).trans (g.mem x).symm
/-- what is found, by any way -/
def isShare (E : Edge) (n : Nat) (x : Frc) : Prop := (1 ≤ x.2 ∧ x.2 ≤ n) ∧ (1 ≤ x.1 ∧ x.1 ≤ x.2) ∧ Nat.gcd x.1 x.2 = 1 ∧ E.has x.1 x.2
structure Found (E : Edge) (n : Nat) (L : List Frc) : Prop where
  nd : L.Nodup
  mem : ∀ x, x ∈ L ↔ isShare E n x
theorem Found.zero {E : Edge} : Found E 0 [] := ⟨List.nodup_nil, fun x => ⟨fun z => (by cases z), fun z => absurd z.1 (by omega)⟩⟩
/-- the shares of bottoms up to n, and of the bottom n + 1 with tops below k -/
structure FoundTo (E : Edge) (n k : Nat) (L : List Frc) : Prop where
  nd : L.Nodup
  mem : ∀ x, x ∈ L ↔ (isShare E n x ∨ (x.2 = n + 1 ∧ x.1 < k ∧ isShare E (n + 1) x))
theorem Found.start {E : Edge} {n k : Nat} {L : List Frc} (h : Found E n L) (hk : ∀ e, e < k → ¬ isShare E (n + 1) (e, n + 1)) : FoundTo E n k L := ⟨h.nd, fun x => (h.mem x).trans ⟨.inl, fun z => by
  rcases z with z | ⟨z1, z2, z3⟩
  · exact z
  · exact absurd z3 (by obtain ⟨e, p⟩ := x; dsimp only at *; subst z1; exact hk e z2)⟩⟩
/-! ### candidates: a key, a share -/
/-! ### the two keys -/
/-! ### what is asked -/
end Ts
namespace Ts
open PySem PySem.Spec PyProof.Rows L2 L2H LamX
/-! ## what stays but for tables -/
theorem TyX.ext {K : PySem.W.Frag} {H H' : Hp} {x : V} {t : Value} (h : TyX K H x t) (s : ExtN H H') : TyX K H' x t := by
  cases h with
  | base b => exact .base (match b with
    | .non => .non
    | .bl x => .bl x
    | .int i => .int i
    | .str x => .str x
    | .flt x => .flt x
    | .lst e => .lst (s _ _ e fun _ z => by cases z)
    | .frz e => .frz (s _ _ e fun _ z => by cases z)
    | .tup e => .tup (s _ _ e fun _ z => by cases z)
    | .dK e => .dK (s _ _ e fun _ z => by cases z)
    | .dT e => .dT (s _ _ e fun _ z => by cases z)
    | .ins e a b c d f => .ins (s _ _ e fun _ z => by cases z) a b c d f)
  | byt b => exact .byt b
  | set e => exact .set (s _ _ e fun _ z => by cases z)
  | kList e c => exact .kList e c
  | kTuple e c => exact .kTuple e c
  | kDict e c => exact .kDict e c
  | fTuple e => exact .fTuple (s _ _ e fun _ z => by cases z)
  | fDict e => exact .fDict (s _ _ e fun _ z => by cases z)
theorem KindV.ext {K : PySem.W.Frag} {H H' : Hp} {v : V} {o : Option Int} (h : KindV K H v o) (s : ExtN H H') : KindV K H' v o := by
  cases o with
  | some i => exact h
  | none => obtain ⟨T, h1, h2⟩ := h; exact ⟨T, h1, TyX.ext h2 s⟩
theorem ThingAt.ext {K : PySem.W.Frag} {H H' : Hp} {v : V} {t : Option (List (Option Int))} (h : ThingAt K H v t) (s : ExtN H H') : ThingAt K H' v t := by
  cases t with
  | none => obtain ⟨T, h1, h2⟩ := h; exact ⟨T, h1, TyX.ext h2 s⟩
  | some os => obtain ⟨p, xs, h1, h2, h3, h4⟩ := h; exact ⟨p, xs, h1, s _ _ h2 (fun _ z => by cases z), h3, fun i x o a b => (h4 i x o a b).ext s⟩
theorem sqt_ext {K : PySem.W.Frag} {H H' : Hp} {a : Addr} {xs : List V} (h : SqT K H a xs) (s : ExtN H H') : SqT K H' a xs := by
  rcases h with (h | ⟨o, h⟩) | h
  · exact .inl (.inl (s _ _ h fun _ z => by cases z))
  · exact .inl (.inr ⟨o, s _ _ h fun _ z => by cases z⟩)
  · exact .inr h
theorem sql_ext {K : PySem.W.Frag} {H H' : Hp} {a : Addr} {xs : List V} (h : SqL K H a xs) (s : ExtN H H') : SqL K H' a xs := by
  rcases h with (h | ⟨o, h⟩) | h
  · exact .inl (.inl (s _ _ h fun _ z => by cases z))
  · exact .inl (.inr ⟨o, s _ _ h fun _ z => by cases z⟩)
  · exact .inr h
mutual
theorem dp_ext {K : PySem.W.Frag} {H H' : Hp} (s : ExtN H H') : ∀ (d : PyData) (v : V), Dp K H v d → Dp K H' v d
  | _, _, .non => .non
  | _, _, .bl b => .bl b
  | _, _, .int i => .int i
  | _, _, .str x => .str x
  | .list ds, _, .lst h a => .lst (sql_ext h s) (dpAll_ext s ds _ a)
  | .tuple ds, _, .tup h a => .tup (sqt_ext h s) (dpAll_ext s ds _ a)
theorem dpAll_ext {K : PySem.W.Frag} {H H' : Hp} (s : ExtN H H') : ∀ (ds : List PyData) (vs : List V), DpAll K H vs ds → DpAll K H' vs ds
  | [], _, .nil => .nil
  | d :: ds, _, .cons h t => .cons (dp_ext s d _ h) (dpAll_ext s ds _ t)
end
theorem ShownV.ext {K : PySem.W.Frag} {H H' : Hp} {v : V} {t : Str} (h : ShownV K H v t) (s : ExtN H H') : ShownV K H' v t := by
  obtain ⟨d, h1, h2⟩ := h
  exact ⟨d, dp_ext s _ _ h1, h2⟩
/-! ## tuples joined, no frozen ones -/
def rCatV : R2 := fun x y H Q => ∃ a b xs ys, x = .ref a ∧ y = .ref b ∧ H a = some (.tup xs) ∧ H b = some (.tup ys) ∧ xs.length + ys.length ≤ sizeLine ∧
  ∀ p H', Same H H' → (p = a ∨ p = b ∨ H p = none) → H' p = some (.tup (xs ++ ys)) → Q (.ref p) H'
theorem op_catV {X : Cx} : OpR X (binaryOp .Add) rCatV := by
  intro pins s σ H x y v u Q I rx ry h
  obtain ⟨a, b, xs, ys, rfl, rfl, ha, hb, hz, q⟩ := id h
  have ha' : SqT X.K H a xs := SqT.of ha
  have hb' : SqT X.K H b ys := SqT.of hb
  by_cases hx : xs = []
  · subst hx
    cases rx
    cases ry
    obtain ⟨its, r1, p1, _⟩ := I.tuple ha'
    obtain ⟨its2, r2, p2, _⟩ := I.tuple hb'
    cases r1
    exact cat_none p1 p2 ⟨.ref b, H, I, rfl, q b H (fun _ _ z => z) (.inr (.inl rfl)) hb⟩
  · refine op_catT pins s σ H _ _ v u Q I rx ry ⟨a, b, xs, ys, rfl, rfl, ha', hb', hx, hz, fun e => ?_, fun _ p hp => q p _ (same_new hp) (.inr (.inr hp)) upd_same⟩
    subst e
    exact q a H (fun _ _ z => z) (.inl rfl) (by rw [List.append_nil]; exact ha)
/-! ## the functions of logs, given anything -/
/-! ## what is told -/
/-- the text that is due for the value of an error -/
def shV : V → Str
  | .int i => (PyData.int i).shown
  | _ => PyData.none.shown
/-- what is heard: as it is due -/
def Fits (due : Option (Str × Str)) (w : Str × Str) : Prop := match due with
  | none => w.1 = "back"
  | some d => w = d
end Ts
namespace Ts
open PySem PySem.Spec PyProof.Rows L2 L2H LamX
/-- a list of two texts -/
def PairAt (H : Hp) (v : V) (w : Str × Str) : Prop := ∃ p, v = .ref p ∧ H p = some (.lst [.str w.1, .str w.2])
inductive Pairs (H : Hp) : List V → List (Str × Str) → Prop
  | nil : Pairs H [] []
  | cons {x : V} {w : Str × Str} {xs : List V} {ws : List (Str × Str)} : PairAt H x w → Pairs H xs ws → Pairs H (x :: xs) (w :: ws)
end Ts
namespace Ts
open PySem PySem.Spec PyProof.Rows L2 L2H LamX
abbrev pairW (w : Str × Str) : PyData := .list [.str w.1, .str w.2]
theorem PairAt.mono {H H' : Hp} {v : V} {w : Str × Str} (h : PairAt H v w) (s : Same H H') : PairAt H' v w := by
  obtain ⟨p, h1, h2⟩ := h
  exact ⟨p, h1, s _ _ h2⟩
theorem Pairs.mono {H H' : Hp} (s : Same H H') : ∀ {xs : List V} {ws : List (Str × Str)}, Pairs H xs ws → Pairs H' xs ws
  | _, _, .nil => .nil
  | _, _, .cons h t => .cons (h.mono s) (t.mono s)
theorem Pairs.dp {K : PySem.W.Frag} {H : Hp} : ∀ {xs : List V} {ws : List (Str × Str)}, Pairs H xs ws → DpAll K H xs (ws.map pairW)
  | _, _, .nil => .nil
  | _, _, .cons ⟨_, h1, h2⟩ t => .cons (by rw [h1]; exact .lst (SqL.of h2) (.cons (.str _) (.cons (.str _) .nil))) t.dp
theorem Pairs.length {H : Hp} : ∀ {xs : List V} {ws : List (Str × Str)}, Pairs H xs ws → xs.length = ws.length
  | _, _, .nil => rfl
  | _, _, .cons _ t => by rw [List.length_cons, List.length_cons, t.length]
theorem Pairs.get {H : Hp} : ∀ {xs : List V} {ws : List (Str × Str)} {i : Nat} {x : V}, Pairs H xs ws → xs[i]? = some x → ∃ w, w ∈ ws ∧ PairAt H x w
  | _, _, 0, _, .cons h _, e => by cases e; exact ⟨_, List.mem_cons_self, h⟩
  | _, _, i + 1, _, .cons _ t, e => by
    obtain ⟨w, h1, h2⟩ := t.get (i := i) e
    exact ⟨w, List.mem_cons_of_mem _ h1, h2⟩
end Ts
namespace Ts
open PySem PySem.Spec PyProof.Rows L2 L2H LamX
theorem lay_all : ∀ {ds : List PyData}, (∀ d ∈ ds, d.canLay0 = true ∧ d.depth ≤ 60) → PyData.canLayAll0 ds = true ∧ PyData.depthAll ds ≤ 60
  | [], _ => ⟨rfl, Nat.zero_le _⟩
  | d :: ds, h => by
    obtain ⟨h1, h2⟩ := h d List.mem_cons_self
    obtain ⟨g1, g2⟩ := lay_all (ds := ds) fun x hx => h x (List.mem_cons_of_mem _ hx)
    exact ⟨by show (d.canLay0 && PyData.canLayAll0 ds) = true; rw [h1, g1]; rfl, by show max d.depth (PyData.depthAll ds) ≤ 60; omega⟩
theorem shaped_tup {ds : List PyData} (h : ∀ d ∈ ds, d.canLay0 = true ∧ d.depth ≤ 60) : SeqAt.shaped (.tuple ds) = true := by
  obtain ⟨h1, h2⟩ := lay_all h
  unfold SeqAt.shaped
  rw [show PyData.canLay0 (.tuple ds) = true from h1, decide_eq_true (show PyData.depth (.tuple ds) ≤ 64 by show PyData.depthAll ds + 1 ≤ 64; omega)]; rfl
theorem ThingP.of {K : PySem.W.Frag} {H : Hp} {p : Addr} {xs : List V} {ds : List PyData} (h : H p = some (.tup xs)) (hd : DpAll K H xs ds) (hl : ds.length ≤ 3000) (ok : ∀ d ∈ ds, d.canLay0 = true ∧ d.depth ≤ 60) : ThingP K H (.ref p) (some ds) := ⟨p, xs, rfl, h, hd, hl, shaped_tup ok⟩
end Ts
namespace Ts
open PySem PySem.Spec PyProof.Rows L2 L2H LamX
/-- of a heap only what is said of it counts from now on -/
theorem at_heap {G : Hp → Prop} {Hn : Hp} (C : Hp → Prop) (c : C Hn) (h : ∀ Hx, C Hx → G Hx) : G Hn := h Hn c
end Ts
namespace Ts
open PySem PySem.Spec PyProof.Rows L2
/-! ## rules that name the keeper -/
/-! ## a walk -/
def lowsR (js : List Job) (t : Nat) : List Int := js.map fun j => lowI j.2.1 j.2.2 (t : Int)
def doubN (js : List Job) (t : Nat) : Nat := crewN (posL (fun j : Job => decide (lowI j.2.1 j.2.2 (t : Int) < highI j.2.1 j.2.2 (t : Int))) js 0)
def growN (js : List Job) (t : Nat) : Nat := grownL (lowsR js t) (lowsR js (t + 1))
def naL (n : Nat) : List Nat := (List.range n).map (notAheadN n)
def livK (js : List Job) (hs : List Nat) : Nat → Nat
  | 0 => possN js.length (doubN js hs.length)
  | k + 1 => beforeN (livK js hs k) (growN js (hs.length - (k + 1))) (naL js.length) (hs.getD (hs.length - (k + 1)) 0) &&& possN js.length (doubN js (hs.length - (k + 1)))
def livL (js : List Job) (hs : List Nat) : List Nat := if livK js hs hs.length = 0 then List.replicate (hs.length + 1) 0 else (List.range (hs.length + 1)).map fun m => livK js hs (hs.length - m)
def Seq (K : PySem.W.Frag) (H : Hp) (a : Addr) (xs : List V) : Prop := SqL K H a xs ∨ SqT K H a xs
theorem Seq.mono {K : PySem.W.Frag} {H H' : Hp} {a : Addr} {xs : List V} (h : Seq K H a xs) (s : Same H H') : Seq K H' a xs := h.imp (fun z => s.seq z) fun z => sameT s z
abbrev rowsD (js : List Job) (m : Nat) : List PyData := (List.range m).map fun t => PyData.list ((lowsR js t).map PyData.int)
/-- the fields of a walk but the last one -/
structure WalkF (K : PySem.W.Frag) (H : Hp) (fs : List (Str × V)) (js : List Job) (hs : List Nat) : Prop where
  ticks : fs.lookup ("ticks" : Str) = some (.int (hs.length : Int))
  most : ∃ a, fs.lookup ("most" : Str) = some (.ref a) ∧ Seq K H a (natV hs)
  sizes : ∃ a, fs.lookup ("sizes" : Str) = some (.ref a) ∧ SqL K H a (natV (sizesN js.length))
  parts : ∃ v, fs.lookup ("parts" : Str) = some v ∧ Dp K H v (.list (subsD js.length))
  lows : ∃ v, fs.lookup ("lows" : Str) = some v ∧ Dp K H v (.list (rowsD js (hs.length + 1)))
  doubles : ∃ a, fs.lookup ("doubles" : Str) = some (.ref a) ∧ SqL K H a (natV ((List.range (hs.length + 1)).map (doubN js)))
  grown : ∃ a, fs.lookup ("grown" : Str) = some (.ref a) ∧ SqL K H a (natV ((List.range hs.length).map (growN js)))
theorem WalkF.mono {K : PySem.W.Frag} {H H' : Hp} {fs : List (Str × V)} {js : List Job} {hs : List Nat} (h : WalkF K H fs js hs) (s : Same H H') : WalkF K H' fs js hs := by
  obtain ⟨a, ⟨b1, b2, b3⟩, ⟨c1, c2, c3⟩, ⟨d1, d2, d3⟩, ⟨e1, e2, e3⟩, ⟨f1, f2, f3⟩, ⟨g1, g2, g3⟩⟩ := h
  exact ⟨a, ⟨b1, b2, b3.mono s⟩, ⟨c1, c2, s.seq c3⟩, ⟨d1, d2, d3.mono s⟩, ⟨e1, e2, e3.mono s⟩, ⟨f1, f2, s.seq f3⟩, ⟨g1, g2, s.seq g3⟩⟩
structure WalkAt (K : PySem.W.Frag) (C : Addr) (H : Hp) (a : Addr) (js : List Job) (hs : List Nat) : Prop where
  ex : ∃ dx fs, H a = some (.ins C dx fs) ∧ WalkF K H fs js hs ∧ (∃ p, fs.lookup ("living" : Str) = some (.ref p) ∧ SqL K H p (natV (livL js hs))) ∧ fs.lookup ("crews" : Str) = none ∧ fs.lookup ("is_alive" : Str) = none ∧ fs.lookup ("choices" : Str) = none ∧ fs.lookup ("ahead_behind" : Str) = none ∧ fs.lookup ("ahead_before" : Str) = none ∧ fs.lookup ("numbers_of" : Str) = none
theorem WalkAt.mono {K : PySem.W.Frag} {C : Addr} {H H' : Hp} {a : Addr} {js : List Job} {hs : List Nat} (h : WalkAt K C H a js hs) (s : Same H H') : WalkAt K C H' a js hs := by
  obtain ⟨dx, fs, h1, h2, ⟨p, h3, h4⟩, h5⟩ := h.ex
  exact ⟨dx, fs, s _ _ h1, h2.mono s, ⟨p, h3, s.seq h4⟩, h5⟩
/-! ## what is asked -/
theorem rgc_down {n : Nat} (h : n ≤ 1000) : RgC ((n : Int) - 1) (-1) (-1) n := by
  have go : ∀ n : Fin 1001, Builtin.Range.small (((n.val : Nat) : Int) - 1) (-1) (-1) = true ∧ Builtin.Range.rangeSize (((n.val : Nat) : Int) - 1) (-1) (-1) = ((n.val : Nat) : Int) := by decide +kernel
  exact ⟨by decide, by decide, (go ⟨n, by omega⟩).1, (go ⟨n, by omega⟩).2⟩
/-! ## bounds -/
theorem doub_lt (js : List Job) (t : Nat) : doubN js t < 2 ^ js.length := posL_lt0 _ _
/-! ## what stays when an object gets a field -/
end Ts
namespace Ts
open PySem PySem.Spec PyProof.Rows L2
/-! ## what a walk tells -/
def aliveB (js : List Job) (hs : List Nat) (m c : Nat) : Bool := decide ((livL js hs).getD m 0 / 2 ^ c % 2 = 1)
def crewsN (js : List Job) (hs : List Nat) (m a : Nat) : List Nat :=
  (((subsN js.length).getD (needN (doubN js (m + 1)) (xorN (growN js m) a)) []).filter fun p => decide ((sizesN js.length).getD p 0 + (sizesN js.length).getD (needN (growN js m) a) 0 ≤ hs.getD m 0)).map (needN (growN js m) a + ·)
def choicesN (js : List Job) (hs : List Nat) (m a : Nat) : List Nat := (crewsN js hs m a).filter fun c => (livL js hs).getD (m + 1) 0 / 2 ^ (a + c - growN js m) % 2 == 1
end Ts
namespace Ts
open PySem PySem.Spec PyProof.Rows L2
/-! ## rows of numbers sorted, the first of them empty -/
theorem first_lex : ∀ (ns ms : List Int) (fin : Bool), fin = decide (ns.length < ms.length) → SeqAt.firstLt (fun j => decide (ns.getD j 0 = ms.getD j 0)) (fun j => decide (ns.getD j 0 < ms.getD j 0)) fin (List.range (min ns.length ms.length)) = HT.lexLt ns ms := by
  intro ns
  induction ns with
  | nil =>
    intro ms fin hf
    rw [List.length_nil, Nat.zero_min, List.range_zero]
    show fin = _
    cases ms with
    | nil => rw [HT.lexLt_nil_nil, hf]; rfl
    | cons y ms => rw [HT.lexLt_nil_cons, hf]; exact decide_eq_true (by simp)
  | cons x ns ih =>
    intro ms fin hf
    cases ms with
    | nil =>
      rw [List.length_nil, Nat.min_zero, List.range_zero]
      show fin = _
      rw [HT.lexLt_cons_nil, hf]; exact decide_eq_false (by simp)
    | cons y ms =>
      rw [HT.lexLt_cons, List.length_cons, List.length_cons, Nat.succ_min_succ, List.range_succ_eq_map]
      show (if decide (x = y) = true then SeqAt.firstLt _ _ fin ((List.range (min ns.length ms.length)).map Nat.succ) else decide (x < y)) = _
      by_cases e : x = y
      · rw [if_pos (decide_eq_true e), if_pos e, W.firstLt_map]
        exact ih ms fin (by rw [hf]; simp)
      · rw [if_neg (by simpa using e), if_neg e]
section
variable {prog : Program} {w : World} {A : Around} {E : Value → Shared → Prop} {s : Shared}
theorem ints_at {vs : List Value} {ns : List Int} (h : IntsAre vs ns) : vs.length = ns.length ∧ ∀ (j : Nat) (h1 : j < vs.length), ∃ t, vs[j] = Value.int (ns.getD j 0) t := by
  induction h with
  | nil => exact ⟨rfl, fun j h => absurd h (Nat.not_lt_zero _)⟩
  | cons n t _ ih =>
    refine ⟨by rw [List.length_cons, List.length_cons, ih.1], fun j h1 => ?_⟩
    cases j with
    | zero => exact ⟨t, rfl⟩
    | succ j => exact ih.2 j (by simpa using h1)
/-- x < y of two rows, by their own way to compare -/
theorem rows_one (hu : A.units < cLine) {x y : Value} {ns ms : List Int} (hx : TS.TupInts s.heap x ns) (hy : TS.TupInts s.heap y ms) {Q : Bool → Shared → Prop} (q : Q (HT.lexLt ns ms) s) : wpAny (model prog w) A (oneLt' true x y) Q E s := by
  obtain ⟨a, xs, rfl, ⟨⟨c1, dd, dt, sl⟩, ho, hc, n, hd⟩, i1⟩ := hx
  obtain ⟨b, ys, rfl, ⟨⟨c2, dd2, dt2, sl2⟩, ho2, hc2, n2, hd2⟩, i2⟩ := hy
  dsimp only at hc hd hc2 hd2
  subst hc hd hc2 hd2
  obtain ⟨l1, a1⟩ := ints_at i1
  obtain ⟨l2, a2⟩ := ints_at i2
  rw [Array.length_toList] at l1 l2
  rw [oneLt'_eq]
  show wpAny _ _ (cRoomFor "comparison" [Value.ref a, Value.ref b] >>= fun _ => callSpecialIfBound? (.ref a) (Str.ofString "__lt__") [.ref b] >>= fun r => _) _ _ _
  refine wpAny_bind (wpAny_cRoomFor hu ?_)
  refine wpAny_bind (wpAny_callSpecialIfBound?_slot (T := "tuple") ⟨_, ho, rfl⟩ PySem.F.slot_tuple_lt ?_)
  refine call_meets PySem.F.slot_tuple_lt ⟨_, ho, rfl⟩ PySem.F.entry_tuple_lt (PySem.F.args_tuple_lt_2 _ _) (SeqAt.tuple_ltAt a b xs ys n n2 dd dd2 sl sl2 (fun j => decide (ns.getD j 0 = ms.getD j 0)) (fun j => decide (ns.getD j 0 < ms.getD j 0))) ⟨ho, ho2, fun j h1 h2 => ?_, fun j h1 h2 _ => ?_, ?_⟩
  · obtain ⟨t, e1⟩ := a1 j (by rw [Array.length_toList]; exact h1)
    obtain ⟨u, e2⟩ := a2 j (by rw [Array.length_toList]; exact h2)
    rw [Array.getElem_toList] at e1 e2
    rw [e1, e2]
    have := SeqAt.EqAt.int_int (A := A.in1) (s := s) (ns.getD j 0) t (ms.getD j 0) u
    exact this
  · obtain ⟨t, e1⟩ := a1 j (by rw [Array.length_toList]; exact h1)
    obtain ⟨u, e2⟩ := a2 j (by rw [Array.length_toList]; exact h2)
    rw [Array.getElem_toList] at e1 e2
    rw [e1, e2]
    exact fun prog w E Q h => PySem.P.lt_int h
  · rw [l1, l2, first_lex ns ms _ rfl]
    exact wpAny_truthy_bool q
theorem types_go : ∀ (vs : List Value) {Q : List Value → Shared → Prop}, (∀ v ∈ vs, ∃ ns, TS.TupInts s.heap v ns) → Q (List.replicate vs.length (.type "tuple")) s → wpAny (model prog w) A (List.mapM typeOf vs) Q E s
  | [], Q, _, q => by rw [List.mapM_nil]; exact wpAny_pure q
  | v :: vs, Q, g, q => by
    rw [List.mapM_cons]
    obtain ⟨ns, a, xs, rfl, ⟨o, ho, hc, n, hd⟩, _⟩ := g v List.mem_cons_self
    refine wpAny_bind (wpAny_typeOf (T := "tuple") ⟨o, ho, hc⟩ (wpAny_bind ?_))
    exact types_go vs (fun u hu => g u (List.mem_cons_of_mem _ hu)) (wpAny_pure q)
theorem firsts_go : ∀ (vs : List Value) {Q : List (Option Value) → Shared → Prop}, (∀ v ∈ vs, ∃ ns, TS.TupInts s.heap v ns) → (∀ l : List (Option Value), (∀ (v : Value) (r : List Value), vs = v :: r → TS.TupInts s.heap v [] → l[0]? = some none) → Q l s) → wpAny (model prog w) A (List.mapM firstOfTuple' vs) Q E s
  | [], Q, _, q => by rw [List.mapM_nil]; exact wpAny_pure (q [] fun v r e => by cases e)
  | v :: vs, Q, g, q => by
    rw [List.mapM_cons]
    obtain ⟨ns, a, xs, rfl, ⟨o, ho, hc, n, hd⟩, hi⟩ := g v List.mem_cons_self
    refine wpAny_bind (show wpAny _ _ (typeOf (.ref a) >>= fun t => if (t != Value.type "tuple") = true then pure none else Builtin.List.listItems (.ref a) >>= fun xs => pure xs[0]?) _ _ _ from ?_)
    refine wpAny_bind (wpAny_typeOf (T := "tuple") ⟨o, ho, hc⟩ ?_)
    rw [if_neg (by decide)]
    refine wpAny_bind (show wpAny _ _ (Builtin.List.listItems (.ref a)) _ _ _ from ?_)
    unfold Builtin.List.listItems
    refine wpAny_bind (wpAny_seqItems ho hd (wpAny_pure (wpAny_pure (wpAny_bind ?_))))
    refine firsts_go vs (fun u hu => g u (List.mem_cons_of_mem _ hu)) fun l _ => wpAny_pure (q _ fun v r e hv => ?_)
    obtain ⟨a2, xs2, e2, ⟨o2, ho2, _, n2, hd2⟩, hi2⟩ := hv
    cases e
    cases e2
    rw [ho] at ho2
    cases ho2
    rw [hd] at hd2
    cases hd2
    have : xs.toList = [] := by cases h : xs.toList with
      | nil => rfl
      | cons y ys => rw [h] at hi2; cases hi2
    have e0 : xs[0]? = none := by
      have := congrArg (fun l : List Value => l[0]?) this
      simpa using this
    rw [e0]; rfl
theorem kind_one {v : Value} {vs : List Value} (h0 : TS.TupInts s.heap v []) (g : ∀ u ∈ v :: vs, ∃ ns, TS.TupInts s.heap u ns) {Q : SortKind → Shared → Prop} (q : Q oneType' s) : wpAny (model prog w) A (keyKind' (v :: vs).toArray) Q E s := by
  rw [keyKind'_eq, List.mapM_toArray, map_eq_pure_bind]
  refine wpAny_bind (wpAny_bind (firsts_go (v :: vs) g fun l hl => wpAny_pure ?_))
  have e0 := hl v vs rfl h0
  have c1 : l.toArray.all (fun x => x.isSome) = false := by
    rw [List.all_toArray']
    cases l with
    | nil => cases e0
    | cons y l => cases e0; rfl
    rfl
  rw [if_neg (by rw [c1]; decide)]
  have c2 : (l.toArray[0]?.bind id).isSome = false := by
    have : l.toArray[0]? = some none := by simpa using e0
    rw [this]; rfl
  rw [if_neg (by rw [c2]; decide)]
  refine wpAny_bind (show wpAny _ _ (Array.mapM typeOf (v :: vs).toArray >>= fun ts => match ts[0]? with | some t => pure (if (ts.all fun x => x == t) = true then some t else none) | none => pure none) _ _ _ from ?_)
  rw [List.mapM_toArray, map_eq_pure_bind]
  refine wpAny_bind (wpAny_bind (types_go (v :: vs) g (wpAny_pure ?_)))
  have c3 : (List.replicate (v :: vs).length (Value.type "tuple")).toArray.all (fun x => x == Value.type "tuple") = true := by
    rw [List.all_toArray', List.all_eq_true]
    · intro x hx
      rw [List.eq_of_mem_replicate hx]; exact beq_self_eq_true _
    · rfl
  have c4 : (List.replicate (v :: vs).length (Value.type "tuple")).toArray[0]? = some (Value.type "tuple") := by
    rw [List.length_cons, List.replicate_succ]; rfl
  rw [c4]
  dsimp only
  rw [if_pos c3]
  exact wpAny_pure (wpAny_pure q)
theorem rows_cmp1 (hu : A.units < cLine) {vs : List Value} {k : Value → List Int} (hp : ∀ v ∈ vs, TS.TupInts s.heap v (k v)) : SrtO.Cmp prog w A s oneType' (fun p => p.1 ∈ vs) (SrtO.lt2 (ltL k)) := by
  intro p q h1 h2
  show wpAny (model prog w) A (oneLt' true p.1 q.1) (fun r s' => s' = s ∧ r = HT.lexLt (k p.1) (k q.1)) (fun _ _ => False) s
  exact rows_one hu (hp _ h1) (hp _ h2) ⟨rfl, rfl⟩
theorem rows_sortedE (hu : A.in1.in1.units < cLine) {l : Addr} {vs : List Value} {k : Value → List Int} {Q : Value → Shared → Prop} (hl : s.heap.IsList l vs.toArray) (hz : vs.length ≤ sizeLine) (hp : ∀ v ∈ vs, TS.TupInts s.heap v (k v)) (h1 : ∀ v ∈ vs.tail, 1 ≤ (k v).length)
    (h : ∀ (h2 : Heap) (d : Addr) (out : List Value), SrtO.Srtd (ltL k) out → SrtO.Stb (ltL k) out vs → (∀ b o, s.heap.get? b = some o → h2.get? b = some o) → s.heap.objs.size ≤ d → (∃ n, h2.get? d = some (seqObj "list" out.toArray n)) → Q (.ref d) { s with heap := h2 }) :
    wpAny (model prog w) A (call (.builtin "sorted") [.ref l]) Q E s := by
  refine SrtO.sorted_ord (NtL.swo_lexL k) hl hz (fun g2 h₁ a ha kk => ?_) fun out hs hb => ?_
  · have not : ∀ o, h₁.get? a = some o → o.cls ≠ .type "tuple" := fun o e => by
      have e2 : some o = some (seqObj "list" vs.toArray 0) := e.symm.trans ha
      cases e2
      exact fun c => absurd (Value.type.inj c) (by decide)
    have g1 : ∀ v ∈ vs, TS.TupInts h₁ v (k v) := fun v z => (hp v z).keeps fun b o e _ => (kk b o e).2
    match vs, g1, h1, g2 with
    | v :: vs, g1, h1, g2 =>
      by_cases c : k v = []
      · intro h2 keep
        have g : ∀ u ∈ v :: vs, TS.TupInts h2 u (k u) := fun u z => (g1 u z).keeps fun b o e c => keep b o (fun y => by subst y; exact not o e c) e
        refine ⟨oneType', fun Q E hq => ?_, rows_cmp1 hu g⟩
        have g0 := g v List.mem_cons_self
        rw [c] at g0
        exact kind_one (s := { s with heap := h2 }) g0 (fun u hu => ⟨_, g u hu⟩) hq
      · refine rows_able (s := { s with heap := h₁ }) (by omega) (fun u z => ⟨g1 u z, ?_⟩) not
        rcases List.mem_cons.mp z with rfl | z
        · cases e : k u with
          | nil => exact absurd e c
          | cons _ _ => simp
        · exact h1 u z
  · exact h _ _ out hs hb (fun b o e => sortedAll_old e) (Nat.le_succ _) (sortedAll_at s.heap vs out.toArray)
end
/-- sorted(xs), xs a list of rows of numbers, the first one perhaps empty -/
def rSortE (K : PySem.W.Frag) : List V → Hp → VK → Prop := fun vs H Q => ∃ (a : Addr) (xs : List V) (rows : List (List Int)), vs = [V.ref a] ∧ SqL K H a xs ∧ DpAll K H xs (rows.map rowD) ∧ (∀ r ∈ rows.tail, 1 ≤ r.length) ∧
  ∀ (ys : List V) (rows2 : List (List Int)) (p : Addr), DpAll K H ys (rows2.map rowD) → SrtO.Srtd HT.lexLt rows2 → SrtO.Stb HT.lexLt rows2 rows → H p = none → Q (.ref p) (upd H p (.lst ys))
theorem tail_map {α β : Type} (f : α → β) : ∀ l : List α, (l.map f).tail = l.tail.map f
  | [] => rfl
  | _ :: _ => rfl
theorem cr_sortE {X : Cx} (hu : X.A.in1.in1.units < cLine) : CallR X (.builtin "sorted") (rSortE X.K) := by
  intro pins s σ H vs us Q I r h
  obtain ⟨a, xs, rows, rfl, hs, hx, hl, q⟩ := h
  have at_row : ∀ (i : Nat) (x : V), xs[i]? = some x → ∃ (r : List Int) (t : Addr), rows[i]? = some r ∧ x = .ref t ∧ SqT X.K H t (r.map V.int) := fun i x e => by
    obtain ⟨d, hd, hv⟩ := hx.get e
    rw [List.getElem?_map] at hd
    cases er : rows[i]? with
    | none => rw [er] at hd; cases hd
    | some r0 =>
      rw [er] at hd
      cases Option.some.inj hd
      obtain ⟨t, rz, rfl, h1, h2⟩ := hv.tuple
      cases h2.ints_eq
      exact ⟨r0, t, rfl, rfl, h1⟩
  let k : V → List Int := fun x => match x with
    | .ref t => TS.intsOf s.heap (.ref t)
    | _ => []
  have kt : ∀ {t : Addr} {r : List Int}, SqT X.K H t (r.map V.int) → k (.ref t) = r := fun h => (tupI_raw I h).ints
  have lx : xs.length = rows.length := by rw [hx.length, List.length_map]
  have ek : xs.map k = rows := by
    refine List.ext_getElem? fun i => ?_
    rw [List.getElem?_map]
    cases e : xs[i]? with
    | none => rw [List.getElem?_eq_none_iff] at e; exact (List.getElem?_eq_none_iff.mpr (by omega)).symm
    | some x =>
      obtain ⟨r0, t, er, rfl, ht⟩ := at_row i x e
      rw [er]
      show some (k (.ref t)) = some r0
      rw [kt ht]
  have mem_row : ∀ x ∈ xs, ∃ t, x = V.ref t ∧ SqT X.K H t ((k x).map V.int) := fun x m => by
    obtain ⟨i, e⟩ := List.mem_iff_getElem?.mp m
    obtain ⟨r0, t, er, rfl, ht⟩ := at_row i x e
    rw [kt ht]
    exact ⟨t, rfl, ht⟩
  obtain ⟨its, rv, hl2, hz⟩ := I.list hs
  rw [Vals.ref1 r]
  obtain ⟨e1, e2⟩ := bkV_refs rv fun x m => by
    obtain ⟨t, e, _⟩ := mem_row x m
    exact ⟨t, e⟩
  refine rows_sortedE hu (k := fun u => k (bkV u)) hl2.isList (by rw [← rv.length]; exact hz) (fun v hv => ?_) (fun v hv => ?_) fun h2 d out o1 o2 kp hd hn => ?_
  · obtain ⟨t, rfl⟩ := e2 v hv
    obtain ⟨t2, e, ht⟩ := mem_row (.ref t) (by rw [e1]; exact List.mem_map.mpr ⟨_, hv, rfl⟩)
    cases e
    exact tupI_raw I ht
  · refine hl _ ?_
    rw [← ek, tail_map, e1, tail_map, List.map_map]
    exact List.mem_map.mpr ⟨v, hv, rfl⟩
  · have h3 : ∀ u ∈ out, ∃ a, u = Value.ref a := fun u hu => e2 u (o2.perm.mem_iff.mp hu)
    obtain ⟨n, hn⟩ := hn
    have hb : SrtO.Stb (ltL k) (out.map bkV) xs := by
      rw [e1]
      exact SrtO.Stb.map (NtL.swo_lexL k) bkV o2
    have all : ∀ zs : List V, (∀ z ∈ zs, z ∈ xs) → DpAll X.K H zs ((zs.map k).map rowD) := by
      intro zs
      induction zs with
      | nil => intro _; exact .nil
      | cons z zs ih =>
        intro g
        obtain ⟨t, e, ht⟩ := mem_row z (g z List.mem_cons_self)
        refine .cons ?_ (ih fun y m => g y (List.mem_cons_of_mem _ m))
        rw [e] at ht ⊢
        exact .tup ht (DpAll.ints _)
    have st := SrtO.Stb.map (NtL.swo_lexL (fun x : List Int => x)) k (l := out.map bkV) (m := xs) hb
    rw [ek] at st
    refine ⟨.ref d, upd H d (.lst (out.map bkV)), I.laid (t' := s.toks) kp hd ⟨?_, out, n, bkV_vals h3, hn⟩, rfl, q (out.map bkV) ((out.map bkV).map k) d (all _ fun z m => hb.perm.mem_iff.mp m) (SrtO.srtd_map (f := k) (lt := HT.lexLt) (SrtO.srtd_map o1)) st (I.hok.fresh hd)⟩
    rw [hb.len]
    exact hz
end Ts
namespace Ts
open PySem PySem.Spec PyProof.Rows L2 L2H LamX
/-! ## what is heard of the functions of logs -/
/-- what repr says of what is wrong -/
structure ShIs (K : PySem.W.Frag) (u : V) (d : PyData) : Prop where
  dp : ∀ H : Hp, Dp K H u d
  sh : d.showable = true
  nd : d.hasDict = false
  dep : d.depth < 60
  len : d.shown.length ≤ sizeLine
  eq : shV u = d.shown
  ok : PyData.strOk d.shown = true
theorem ShIs.shown {K : PySem.W.Frag} {u : V} {d : PyData} (h : ShIs K u d) (H : Hp) : ShownV K H u (shV u) := ⟨d, h.dp H, h.sh, h.nd, h.dep, h.len, h.eq⟩
/-! ## what the law asks, where lambdas are made -/
end Ts
namespace Ts
open PySem PySem.Spec PyProof.Rows L2 L2H LamX
/-! ## the list of what was told, call by call -/
structure Ph (T : List (Addr × Str)) (b lt : Addr) (due : Option (Str × Str)) (H5 Hn : Hp) (xs : List V) (ws : List (Str × Str)) : Prop where
  B : Bas Hn b
  T : Tabs T Hn
  l : Hn lt = some (.lst xs)
  ps : Pairs (hid2 lt Hn) xs ws
  fs : ∀ w ∈ ws, Fits due w
  nb : lt ≠ b
  s : ExtN H5 (hid2 lt Hn)
theorem Pairs.snoc {H : Hp} : ∀ {xs : List V} {ws : List (Str × Str)} {x : V} {w : Str × Str}, Pairs H xs ws → PairAt H x w → Pairs H (xs ++ [x]) (ws ++ [w])
  | _, _, _, _, .nil, h => .cons h .nil
  | _, _, _, _, .cons g t, h => .cons g (t.snoc h)
end Ts
namespace Ts
open PySem PySem.Spec PyProof.Rows L2 L2H LamX
/-! ## what repr says, of any kind of value that a law hands in -/
/-- data without dicts, or an empty dict -/
inductive ShW (K : PySem.W.Frag) (H : Hp) : V → Str → Prop
  | data {v : V} {d : PyData} : Dp K H v d → d.showable = true → d.hasDict = false → d.depth < 60 → d.shown.length ≤ sizeLine → ShW K H v d.shown
  | emp {a : Addr} : H a = some (.dK []) → ShW K H (.ref a) "{}"
theorem ShW.mono {K : PySem.W.Frag} {H H' : Hp} {v : V} {t : Str} (h : ShW K H v t) (s : Same H H') : ShW K H' v t := by
  cases h with
  | data a b c d e => exact .data (a.mono s) b c d e
  | emp a => exact .emp (s _ _ a)
/-! ## a call that is heard, anew: repr by ShE of what an error keeps, by ShO of what comes back; errors without a field, too -/
/-! ## methods that raise -/
end Ts
namespace Ts
open PySem PySem.Spec PyProof.Rows L2 L2H LamX
/-! ## repr of own objects, alone or in a tuple or list of one -/
def LotR (K : PySem.W.Frag) (C : Addr) : Addr → Hp → Str → Prop := fun a H t => ∃ (n : Nat) (js : List Job), LotAt K C H a n js ∧ n ≤ 1000 ∧ js.length ≤ 20 ∧ t = reprS js.length n
theorem LotR.ins {K : PySem.W.Frag} {C a : Addr} {H : Hp} {t : Str} (h : LotR K C a H t) : ∃ dx fs, H a = some (.ins C dx fs) := by
  obtain ⟨n, js, L, _⟩ := h
  obtain ⟨dx, pn, ps, pt, ha, _⟩ := L.ex
  exact ⟨dx, _, ha⟩
end Ts
namespace Ts
open PySem PySem.Spec PyProof.Rows L2 L2H LamX
/-- data, an empty dict, a lot, or a tuple or a list of one lot -/
inductive ShC (K : PySem.W.Frag) (C : Addr) (H : Hp) : V → Str → Prop
  | w {v : V} {t : Str} : ShW K H v t → ShC K C H v t
  | lot {a : Addr} {t : Str} : LotR K C a H t → ShC K C H (.ref a) t
  | tup {p a : Addr} {t : Str} : H p = some (.tup [.ref a]) → LotR K C a H t → ShC K C H (.ref p) (tupleText [t])
  | lst {p a : Addr} {t : Str} : H p = some (.lst [.ref a]) → LotR K C a H t → ShC K C H (.ref p) (listText [t])
theorem LotR.mono {K : PySem.W.Frag} {C a : Addr} {H H' : Hp} {t : Str} (h : LotR K C a H t) (s : Same H H') : LotR K C a H' t := by
  obtain ⟨n, js, L, h⟩ := h
  exact ⟨n, js, L.mono s, h⟩
theorem LotR.len {K : PySem.W.Frag} {C a : Addr} {H : Hp} {t : Str} (h : LotR K C a H t) : t.length ≤ 40 := by
  obtain ⟨n, js, L, h1, h2, rfl⟩ := h
  have l5 := numS_len (n := js.length) (by omega)
  have l6 := numS_len h1
  unfold reprS
  have l1 : (Str.ofString "Lot of ").length = 7 := by decide
  have l2 : (Str.ofString " works, ").length = 8 := by decide
  have l3 : (Str.ofString " hands").length = 6 := by decide
  rw [strLen_append, strLen_append, strLen_append, strLen_append, l1, l2, l3]
  omega
theorem ShC.mono {K : PySem.W.Frag} {C : Addr} {H H' : Hp} {v : V} {t : Str} (h : ShC K C H v t) (s : Same H H') : ShC K C H' v t := by
  cases h with
  | w a => exact .w (a.mono s)
  | lot a => exact .lot (a.mono s)
  | tup a b => exact .tup (s _ _ a) (b.mono s)
  | lst a b => exact .lst (s _ _ a) (b.mono s)
end Ts
namespace Ts
open PySem PySem.Spec PyProof.Rows L2 L2H LamX
/-! ## any value: data, or an empty dict -/
def AnyV (K : PySem.W.Frag) (H : Hp) (v : V) : Option PyData → Prop
  | some d => Dp K H v d
  | none => ∃ a, v = .ref a ∧ H a = some (.dK [])
theorem AnyV.mono {K : PySem.W.Frag} {H H' : Hp} {v : V} {o : Option PyData} (h : AnyV K H v o) (s : Same H H') : AnyV K H' v o := by
  cases o with
  | none => obtain ⟨a, e, h⟩ := h; exact ⟨a, e, s _ _ h⟩
  | some d => exact (show Dp K H v d from h).mono s
theorem AnyV.ext {K : PySem.W.Frag} {H H' : Hp} {v : V} {o : Option PyData} (h : AnyV K H v o) (s : ExtN H H') : AnyV K H' v o := by
  cases o with
  | none => obtain ⟨a, e, h⟩ := h; exact ⟨a, e, s _ _ h fun _ z => by cases z⟩
  | some d => exact dp_ext s _ _ h
def tyN : Option PyData → String
  | none => "dict"
  | some .none => "NoneType"
  | some (.bool _) => "bool"
  | some (.int _) => "int"
  | some (.str _) => "str"
  | some (.list _) => "list"
  | some (.tuple _) => "tuple"
  | some (.dict _) => "dict"
theorem AnyV.ty {K : PySem.W.Frag} {H : Hp} {v : V} {o : Option PyData} (h : AnyV K H v o) : TyX K H v (.type (tyN o)) := by
  cases o with
  | none => obtain ⟨a, rfl, h⟩ := h; exact .base (.dK h)
  | some d =>
    have h' : Dp K H v d := h
    cases h' with
    | non => exact .base .non
    | bl b => exact .base (.bl b)
    | int i => exact .base (.int i)
    | str x => exact .base (.str x)
    | lst a b => exact SqL.ty a
    | tup a b => exact SqT.ty a
theorem AnyV.kind {K : PySem.W.Frag} {H : Hp} {v : V} {o : Option PyData} (h : AnyV K H v o) : KindV K H v (o.bind kindD) := by
  cases o with
  | none => obtain ⟨a, rfl, h⟩ := h; exact ⟨"dict", by decide, .base (.dK h)⟩
  | some d => exact dp_kind h
theorem tyN_in (o : Option PyData) : tyN o ∈ ["dict", "NoneType", "bool", "int", "str", "list", "tuple"] := by
  match o with
  | none => exact (by decide : "dict" ∈ ["dict", "NoneType", "bool", "int", "str", "list", "tuple"])
  | some .none => exact (by decide : "NoneType" ∈ ["dict", "NoneType", "bool", "int", "str", "list", "tuple"])
  | some (.bool _) => exact (by decide : "bool" ∈ ["dict", "NoneType", "bool", "int", "str", "list", "tuple"])
  | some (.int _) => exact (by decide : "int" ∈ ["dict", "NoneType", "bool", "int", "str", "list", "tuple"])
  | some (.str _) => exact (by decide : "str" ∈ ["dict", "NoneType", "bool", "int", "str", "list", "tuple"])
  | some (.list _) => exact (by decide : "list" ∈ ["dict", "NoneType", "bool", "int", "str", "list", "tuple"])
  | some (.tuple _) => exact (by decide : "tuple" ∈ ["dict", "NoneType", "bool", "int", "str", "list", "tuple"])
  | some (.dict _) => exact (by decide : "dict" ∈ ["dict", "NoneType", "bool", "int", "str", "list", "tuple"])
theorem tyN_tup {o : Option PyData} (h : tyN o = "tuple") : ∃ ds, o = some (.tuple ds) := by
  match o with
  | none => exact absurd h (by decide)
  | some .none => exact absurd h (by decide)
  | some (.bool _) => exact absurd h (by show ¬ "bool" = "tuple"; decide)
  | some (.int _) => exact absurd h (by show ¬ "int" = "tuple"; decide)
  | some (.str t) => exact absurd h (by show ¬ "str" = "tuple"; decide)
  | some (.list _) => exact absurd h (by show ¬ "list" = "tuple"; decide)
  | some (.tuple ds) => exact ⟨ds, rfl⟩
  | some (.dict _) => exact absurd h (by show ¬ "dict" = "tuple"; decide)
theorem no_tup {K : PySem.W.Frag} {o : Option PyData} (h : tyN o ≠ "tuple") : PySem.W.kitOne K (.type (tyN o)) (.type "tuple") = some false := by
  have go : ∀ T ∈ ["dict", "NoneType", "bool", "int", "str", "list", "tuple"], T ≠ "tuple" → kitB T "tuple" = some false := by decide +kernel
  exact kit_ty (go _ (tyN_in o) h)
/-! ## what is a name, what is a share -/
/-- the value is not too long -/
def shortV : Option PyData → Prop
  | some (.str t) => t.length ≤ 100 ∧ PyData.strOk t = true
  | some (.tuple ds) => ds.length ≤ 100
  | _ => True
/-! ## put, given anything -/
end Ts
namespace Ts
open PySem PySem.Spec PyProof.Rows L2 L2H LamX
/-! ## odd values, drawn -/
structure OddV (K : PySem.W.Frag) (H : Hp) (v : V) (o : Option PyData) (sh : Str) : Prop where
  av : AnyV K H v o
  sv : ShW K H v sh
  lv : shortV o
  ok : PyData.strOk sh = true
theorem OddV.mono {K : PySem.W.Frag} {H H' : Hp} {v : V} {o : Option PyData} {sh : Str} (h : OddV K H v o sh) (s : Same H H') : OddV K H' v o sh := ⟨h.av.mono s, h.sv.mono s, h.lv, h.ok⟩
theorem OddV.ext {K : PySem.W.Frag} {H H' : Hp} {v : V} {o : Option PyData} {sh : Str} (h : OddV K H v o sh) (s : ExtN H H') : OddV K H' v o sh := by
  refine ⟨h.av.ext s, ?_, h.lv, h.ok⟩
  cases h.sv with
  | data a b c d e => exact .data (dp_ext s _ _ a) b c d e
  | emp a => exact .emp (s _ _ a fun _ z => by cases z)
theorem OddV.of {K : PySem.W.Frag} {H : Hp} {v : V} {d : PyData} (h : Dp K H v d) (h1 : d.showable = true) (h2 : d.hasDict = false) (h3 : d.depth < 60) (h4 : d.shown.length ≤ sizeLine) (h5 : PyData.strOk d.shown = true) (h6 : shortV (some d)) : OddV K H v (some d) d.shown := ⟨h, .data h h1 h2 h3 h4, h6, h5⟩
theorem OddV.emp {K : PySem.W.Frag} {H : Hp} {a : Addr} (h : H a = some (.dK [])) : OddV K H (.ref a) none "{}" := ⟨⟨a, rfl, h⟩, .emp h, trivial, by decide +kernel⟩
theorem strOk_all {t : Str} (h : PyData.strOk t = true) : ∀ c ∈ t.cps.toList, c < 0x110000 := fun c hc => by
  unfold PyData.strOk at h
  rw [← Array.all_toList] at h
  exact of_decide_eq_true (List.all_eq_true.mp h c hc)
end Ts
namespace Ts
open PySem PySem.Spec PyProof.Rows L2 L2H LamX
/-! ## texts of plain signs are written soundly -/
theorem chars_ok {q c : Nat} (hq : q = 34 ∨ q = 39) (hc : c < 128) : ∀ d ∈ Builtin.Str.reprChar q c, d < 0x110000 := by
  have go : ∀ q ∈ [34, 39], ∀ c : Fin 128, ((Builtin.Str.reprChar q c.val).all fun d => decide (d < 0x110000)) = true := by decide +kernel
  intro d hd
  have hq' : q ∈ [34, 39] := by rcases hq with rfl | rfl <;> decide
  exact of_decide_eq_true (List.all_eq_true.mp (go q hq' ⟨c, hc⟩) d hd)
theorem fold_ok {q : Nat} (hq : q = 34 ∨ q = 39) : ∀ (l : List Nat) (acc : Array Nat), (∀ c ∈ l, c < 128) → (∀ d ∈ acc.toList, d < 0x110000) → ∀ d ∈ (l.foldl (fun out c => out ++ (Builtin.Str.reprChar q c).toArray) acc).toList, d < 0x110000
  | [], acc, _, h => h
  | c :: l, acc, hl, h => by
    refine fold_ok hq l _ (fun x hx => hl x (List.mem_cons_of_mem _ hx)) fun d hd => ?_
    rw [Array.toList_append] at hd
    rcases List.mem_append.mp hd with z | z
    · exact h d z
    · exact chars_ok hq (hl c List.mem_cons_self) d (by simpa using z)
theorem text_ok {x : Str} (h : Plain x) : PyData.strOk (PyData.str x).shown = true := by
  show PyData.strOk (reprText x) = true
  unfold reprText
  have hq : reprQuote x = 34 ∨ reprQuote x = 39 := by
    unfold reprQuote
    split
    · exact .inl rfl
    · exact .inr rfl
  unfold PyData.strOk
  rw [← Array.all_toList, Array.toList_push, ← Array.foldl_toList]
  refine List.all_eq_true.mpr fun d hd => decide_eq_true ?_
  have q0 : reprQuote x < 0x110000 := by rcases hq with e | e <;> rw [e] <;> decide
  rcases List.mem_append.mp hd with z | z
  · refine fold_ok hq x.cps.toList _ (fun c hc => h c hc) (fun d hd => ?_) d z
    have : d = reprQuote x := by simpa using hd
    rw [this]; exact q0
  · rw [List.mem_singleton.mp z]; exact q0
theorem plain_ok {x : Str} (h : Plain x) : PyData.strOk x = true := by
  unfold PyData.strOk
  rw [← Array.all_toList]
  exact List.all_eq_true.mpr fun c hc => decide_eq_true (Nat.lt_trans (h c hc) (by decide))
theorem OddV.str {K : PySem.W.Frag} {H : Hp} {x : Str} (h : Plain x) (hl : x.length ≤ 100) : OddV K H (.str x) (some (.str x)) (PyData.str x).shown := by
  obtain ⟨a, b, c, d⟩ := (nice_str (e := 0) h hl).fits (by decide) (by decide)
  exact OddV.of (.str x) a b c d (text_ok h) ⟨hl, plain_ok h⟩
theorem two_ok {a b : Nat} (ha : a ≤ 16) (hb : b ≤ 32) : PyData.strOk (PyData.tuple [.int (a : Int), .int (b : Int)]).shown = true := by
  have go : ∀ (a : Fin 17) (b : Fin 33), PyData.strOk (PyData.tuple [.int ((a.val : Nat) : Int), .int ((b.val : Nat) : Int)]).shown = true := by decide +kernel
  exact go ⟨a, by omega⟩ ⟨b, by omega⟩
theorem OddV.two {K : PySem.W.Frag} {H : Hp} {q : Addr} {a b : Nat} (h : SqT K H q [.int (a : Int), .int (b : Int)]) (ha : a ≤ 16) (hb : b ≤ 32) : OddV K H (.ref q) (some (partD a b)) (PyData.tuple [.int (a : Int), .int (b : Int)]).shown := by
  obtain ⟨x, y, z, w⟩ := (fine_pair (a := a) (b := b) (by omega) (by omega)).fits (by decide) (by decide)
  exact OddV.of (.tup h (.cons (.int _) (.cons (.int _) .nil))) x y z w (two_ok ha hb) (by show 2 ≤ 100; decide)
/-- values of which each one is odd -/
def OddAll (K : PySem.W.Frag) (H : Hp) (xs : List V) : Prop := ∀ v ∈ xs, ∃ o sh, OddV K H v o sh
theorem OddAll.mono {K : PySem.W.Frag} {H H' : Hp} {xs : List V} (h : OddAll K H xs) (s : Same H H') : OddAll K H' xs := fun v hv => by
  obtain ⟨o, sh, g⟩ := h v hv
  exact ⟨o, sh, g.mono s⟩
theorem OddAll.nil {K : PySem.W.Frag} {H : Hp} : OddAll K H [] := fun v hv => by cases hv
theorem OddAll.cons {K : PySem.W.Frag} {H : Hp} {v : V} {o : Option PyData} {sh : Str} {xs : List V} (h : OddV K H v o sh) (t : OddAll K H xs) : OddAll K H (v :: xs) := fun u hu => by
  rcases List.mem_cons.mp hu with rfl | z
  · exact ⟨o, sh, h⟩
  · exact t u z
/-! ## lots stay but for tables -/
theorem LotAt.ext {K : PySem.W.Frag} {C : Addr} {H H' : Hp} {a : Addr} {n : Nat} {js : List Job} (L : LotAt K C H a n js) (s : ExtN H H') : LotAt K C H' a n js := by
  obtain ⟨dx, pn, ps, pt, h1, ⟨ob, h2, h5⟩, h3, h4⟩ := L.ex
  exact ⟨dx, pn, ps, pt, s _ _ h1 (fun _ z => by cases z), ⟨ob, s _ _ h2 (fun _ z => by cases z), h5⟩, dp_ext s _ _ h3, dp_ext s _ _ h4⟩
theorem Ph.kept {T : List (Addr × Str)} {b lt : Addr} {due : Option (Str × Str)} {H5 Hn : Hp} {xs : List V} {ws : List (Str × Str)} (h : Ph T b lt due H5 Hn xs ws) : Same (hid2 b H5) (hid2 b Hn) := fun a o e => by
  obtain ⟨n, t, e2⟩ := hid2_some (hid2_ext h.s a o e)
  exact hid2_of n t (hid2_sub _ _ e2)
/-! ## what is heard of put -/
end Ts
namespace Ts
open PySem PySem.Spec PyProof.Rows L2 L2H LamX
/-! ## lots and names, given anything -/
abbrev plainT : List String := ["dict", "NoneType", "bool", "int", "str", "list", "tuple"]
/-- a value that is no lot -/
def NoLot (K : PySem.W.Frag) (H : Hp) (v : V) : Prop := ∃ T, T ∈ plainT ∧ TyX K H v (.type T)
theorem NoLot.mono {K : PySem.W.Frag} {H H' : Hp} {v : V} (h : NoLot K H v) (s : Same H H') : NoLot K H' v := by
  obtain ⟨T, h1, h2⟩ := h
  exact ⟨T, h1, TyX.mono h2 s⟩
theorem NoLot.ext {K : PySem.W.Frag} {H H' : Hp} {v : V} (h : NoLot K H v) (s : ExtN H H') : NoLot K H' v := by
  obtain ⟨T, h1, h2⟩ := h
  exact ⟨T, h1, TyX.ext h2 s⟩
/-- a lot, or none -/
def LotOr (K : PySem.W.Frag) (C : Addr) (H : Hp) (v : V) : Option (Nat × List Job) → Prop
  | some p => ∃ a, v = .ref a ∧ LotAt K C H a p.1 p.2
  | none => NoLot K H v
theorem LotOr.mono {K : PySem.W.Frag} {C : Addr} {H H' : Hp} {v : V} {o : Option (Nat × List Job)} (h : LotOr K C H v o) (s : Same H H') : LotOr K C H' v o := by
  cases o with
  | none => exact NoLot.mono h s
  | some p => obtain ⟨a, e, L⟩ := h; exact ⟨a, e, L.mono s⟩
theorem LotOr.ext {K : PySem.W.Frag} {C : Addr} {H H' : Hp} {v : V} {o : Option (Nat × List Job)} (h : LotOr K C H v o) (s : ExtN H H') : LotOr K C H' v o := by
  cases o with
  | none => exact NoLot.ext h s
  | some p => obtain ⟨a, e, L⟩ := h; exact ⟨a, e, L.ext s⟩
theorem Raise1.mono {C : Addr} {fld : Str} {v : V} {H H' : Hp} {E : XK} (h : Raise1 C fld v H E) (s : Same H H') : Raise1 C fld v H' E := fun H2 d s2 => h H2 d (s.trans s2)
theorem inRg_is {o : Option Int} {lo hi : Int} (h : inRg o lo hi = true) : ∃ i, o = some i ∧ lo ≤ i ∧ i ≤ hi := by
  cases o with
  | none => cases h
  | some i => exact ⟨i, rfl, of_decide_eq_true h⟩
end Ts
namespace Ts
open PySem PySem.Spec PyProof.Rows L2 L2H LamX
/-! ## what is heard of lots -/
/-! ## things that are no lots -/
structure NoLotV (K : PySem.W.Frag) (C : Addr) (H : Hp) (v : V) (sh : Str) : Prop where
  no : NoLot K H v
  sv : ShC K C H v sh
  ok : PyData.strOk sh = true
theorem ShC.ext {K : PySem.W.Frag} {C : Addr} {H H' : Hp} {v : V} {t : Str} (h : ShC K C H v t) (s : ExtN H H') : ShC K C H' v t := by
  have lx : ∀ {a : Addr} {t : Str}, LotR K C a H t → LotR K C a H' t := fun ⟨n, js, L, z⟩ => ⟨n, js, L.ext s, z⟩
  cases h with
  | w a =>
    cases a with
    | data a b c d e => exact .w (.data (dp_ext s _ _ a) b c d e)
    | emp a => exact .w (.emp (s _ _ a fun _ z => by cases z))
  | lot a => exact .lot (lx a)
  | tup a b => exact .tup (s _ _ a fun _ z => by cases z) (lx b)
  | lst a b => exact .lst (s _ _ a fun _ z => by cases z) (lx b)
theorem NoLotV.mono {K : PySem.W.Frag} {C : Addr} {H H' : Hp} {v : V} {sh : Str} (h : NoLotV K C H v sh) (s : Same H H') : NoLotV K C H' v sh := ⟨h.no.mono s, h.sv.mono s, h.ok⟩
theorem NoLotV.ext {K : PySem.W.Frag} {C : Addr} {H H' : Hp} {v : V} {sh : Str} (h : NoLotV K C H v sh) (s : ExtN H H') : NoLotV K C H' v sh := ⟨h.no.ext s, h.sv.ext s, h.ok⟩
theorem NoLotV.str {K : PySem.W.Frag} {C : Addr} {H : Hp} {x : Str} (h : Plain x) (hl : x.length ≤ 1000) : NoLotV K C H (.str x) (PyData.str x).shown := by
  obtain ⟨a, b, c, d⟩ := (nice_str (e := 0) h hl).fits (by decide) (by decide)
  exact ⟨⟨"str", by decide, .base (.str x)⟩, .w (.data (.str x) a b c d), text_ok h⟩
theorem strOk_app {x y : Str} (h : PyData.strOk x = true) (g : PyData.strOk y = true) : PyData.strOk (x ++ y) = true := by
  unfold PyData.strOk at h g ⊢
  rw [← Array.all_toList] at h g ⊢
  refine List.all_eq_true.mpr fun c hc => ?_
  have hc' : c ∈ (x.cps ++ y.cps).toList := hc
  rw [Array.toList_append] at hc'
  exact (List.mem_append.mp hc').elim (List.all_eq_true.mp h c) (List.all_eq_true.mp g c)
theorem NoLotV.tup {K : PySem.W.Frag} {C : Addr} {H : Hp} {p a : Addr} {n : Nat} {js : List Job} (h : H p = some (.tup [.ref a])) (L : LotAt K C H a n js) (hn : n ≤ 6) (hl : js.length ≤ 6) : NoLotV K C H (.ref p) (tupleText [reprS js.length n]) :=
  ⟨⟨"tuple", by decide, .base (.tup h)⟩, .tup h ⟨n, js, L, by omega, by omega, rfl⟩, by
    show PyData.strOk (("(" : Str) ++ Str.join ", " [reprS js.length n] ++ (",)" : Str)) = true
    exact strOk_app (strOk_app (by decide +kernel) (plain_ok (plain_repr _ _))) (by decide +kernel)⟩
theorem NoLotV.lst {K : PySem.W.Frag} {C : Addr} {H : Hp} {p a : Addr} {n : Nat} {js : List Job} (h : H p = some (.lst [.ref a])) (L : LotAt K C H a n js) (hn : n ≤ 6) (hl : js.length ≤ 6) : NoLotV K C H (.ref p) (listText [reprS js.length n]) :=
  ⟨⟨"list", by decide, .base (.lst h)⟩, .lst h ⟨n, js, L, by omega, by omega, rfl⟩, by
    show PyData.strOk ((("[" : Str) ++ (("" : String) : Str) ++ reprS js.length n) ++ ("]" : Str)) = true
    exact strOk_app (strOk_app (strOk_app (by decide +kernel) (by decide +kernel)) (plain_ok (plain_repr _ _))) (by decide +kernel)⟩
end Ts
namespace Ts
open PySem PySem.Spec PyProof.Rows L2 L2H LamX
theorem cut_top {xs : List V} {i : Nat} : cutV xs none (some (i : Int)) = xs.take i := by
  unfold cutV
  rw [HT.sIx_none, HT.sIx_nat, List.drop_zero, Nat.sub_zero]
  by_cases h : i ≤ xs.length
  · rw [Nat.min_eq_left h]
  · rw [Nat.min_eq_right (by omega), List.take_of_length_le (Nat.le_refl _), List.take_of_length_le (by omega)]
end Ts
namespace Ts
open PySem PySem.Spec PyProof.Rows L2 L2H LamX
/-- values that are no lots -/
def NoLots (K : PySem.W.Frag) (C : Addr) (H : Hp) (xs : List V) : Prop := ∀ v ∈ xs, ∃ sh, NoLotV K C H v sh
theorem NoLots.nil {K : PySem.W.Frag} {C : Addr} {H : Hp} : NoLots K C H [] := fun v hv => by cases hv
theorem NoLots.cons {K : PySem.W.Frag} {C : Addr} {H : Hp} {v : V} {sh : Str} {xs : List V} (h : NoLotV K C H v sh) (t : NoLots K C H xs) : NoLots K C H (v :: xs) := fun u hu => by
  rcases List.mem_cons.mp hu with rfl | z
  · exact ⟨sh, h⟩
  · exact t u z
end Ts
namespace Ts
open PySem PySem.Spec PyProof.Rows L2 L2H LamX
/-! ## the bag that the later laws draw from -/
/-- at b: where draws come from; the seed is not too great -/
def Bag (H : Hp) (b : Addr) : Prop := ∃ x y z : Int, 0 ≤ x ∧ x < 2147483587 ∧ H b = some (.lst [.int x, .int y, .int z])
theorem Bag.bas {H : Hp} {b : Addr} (h : Bag H b) : Bas H b := by
  obtain ⟨x, y, z, _, _, e⟩ := h
  exact ⟨x, y, z, e⟩
theorem Bag.on {H H' : Hp} {b : Addr} (h : Bag H b) (s : Same H H') : Bag H' b := by
  obtain ⟨x, y, z, h1, h2, e⟩ := h
  exact ⟨x, y, z, h1, h2, s _ _ e⟩
theorem Bag.ext {H H' : Hp} {b : Addr} (h : Bag H b) (s : ExtN H H') : Bag H' b := by
  obtain ⟨x, y, z, h1, h2, e⟩ := h
  exact ⟨x, y, z, h1, h2, s _ _ e fun _ q => nomatch q⟩
theorem Bag.off {H : Hp} {b p : Addr} (h : Bag H b) (hp : H p = none) : p ≠ b := h.bas.off hp
/-! ## the greatest common divisor, in so many steps -/
end Ts
namespace Ts
open PySem PySem.Spec PyProof.Rows L2
/-! ## so many rounds later -/
/-- the turns of a group, one behind the other -/
def grp (e p : Nat) : Nat → Int → Int
  | 0, t => borI e p t
  | n + 1, t => if overI e p t = true then (if borI e p (t + 1) - begI e p (t + 1) = 3 then borI e p (t + 1) - 1 else grp e p n (t + 1)) else borI e p t
def gborI (e p : Nat) (t : Int) : Int := if 2 * (e : Int) < (p : Int) then 0 else grp e p 16 t
end Ts
namespace Ts
open PySem PySem.Spec PyProof.Rows L2 L2H LamX
theorem itT {b : Bool} {A B : Prop} (e : b = true) (h : A) : (if b = true then A else B) := by rw [if_pos e]; exact h
theorem itF {b : Bool} {A B : Prop} (e : b = false) (h : B) : (if b = true then A else B) := by rw [if_neg (by rw [e]; decide)]; exact h
/-! ## the sum of a tuple of ints -/
/-! ## certificates: () or not -/
def CertV (K : PySem.W.Frag) (H : Hp) (v : V) : Bool → Prop
  | true => ∃ p, v = .ref p ∧ SqT K H p []
  | false => (∃ p xs, v = .ref p ∧ SqT K H p xs ∧ xs ≠ []) ∨ ∃ T, T ∈ ["dict", "NoneType", "bool", "int", "str", "list"] ∧ TyX K H v (.type T)
theorem CertV.mono {K : PySem.W.Frag} {H H' : Hp} {v : V} {e : Bool} (h : CertV K H v e) (s : Same H H') : CertV K H' v e := by
  cases e with
  | true => obtain ⟨p, h1, h2⟩ := h; exact ⟨p, h1, sameT s h2⟩
  | false =>
    rcases h with ⟨p, xs, h1, h2, h3⟩ | ⟨T, h1, h2⟩
    · exact .inl ⟨p, xs, h1, sameT s h2, h3⟩
    · exact .inr ⟨T, h1, TyX.mono h2 s⟩
/-! ## shares that fit a log -/
def keptZ (e p : Int) (t a : Int) : Bool := decide ((if a * p - t * e < 0 then -(a * p - t * e) else a * p - t * e) < p)
/-- a share at v; few ticks and moments -/
def spIsKept (K : PySem.W.Frag) : Sp := fun vs H Q _ => ∃ (v : V) (e p t a : Int), vs = [v, .int t, .int a] ∧ (∃ q, v = .ref q ∧ SqT K H q [.int e, .int p]) ∧ -(2 ^ 64) < t ∧ t < 2 ^ 64 ∧ -(2 ^ 64) < a ∧ a < 2 ^ 64 ∧ Q (.bl (keptZ e p t a)) H
/-! ## what the checker answers, for a claim with this word -/
theorem place_nat {n j : Nat} (hj : j < n) : ixN n (j : Int) = some j := by
  unfold ixN
  rw [if_pos (by omega), if_pos (by omega), Int.toNat_natCast]
end Ts
namespace Ts
open PySem PySem.Spec PyProof.Rows L2 L2H LamX
/-! ## logs as things -/
/-- a share kept at an address -/
def Shr (H : Hp) (b : Addr) (t : Addr × Nat × Nat) : Prop := t.1 ≠ b ∧ H t.1 = some (.tup [.int (t.2.1 : Int), .int (t.2.2 : Int)]) ∧ GoodPart 1000 t.2.1 t.2.2 ∧ t.2.2 ≤ 14
theorem Shr.but {H H' : Hp} {b : Addr} {t : Addr × Nat × Nat} (h : Shr H b t) (s : But b H H') : Shr H' b t := ⟨h.1, s _ _ h.1 h.2.1, h.2.2⟩
theorem CertV.empty {K : PySem.W.Frag} {H : Hp} {c : Addr} (h : SqT K H c []) : CertV K H (.ref c) true := ⟨c, rfl, h⟩
end Ts
namespace Ts
open PySem PySem.Spec PyProof.Rows L2 L2H LamX
/-! ## the later laws' lots -/
def partJ (j : Job) : PyData := partD j.2.1 j.2.2
theorem share_at {K : PySem.W.Frag} {H : Hp} {xs : List V} {js : List Job} (h : DpAll K H xs (js.map partJ)) {i : Nat} {x : V} (e : xs[i]? = some x) :
    ∃ (j : Job) (q : Addr), js[i]? = some j ∧ x = .ref q ∧ SqT K H q [.int (j.2.1 : Int), .int (j.2.2 : Int)] := by
  obtain ⟨d, hd, hv⟩ := h.get e
  rw [List.getElem?_map] at hd
  cases ej : js[i]? with
  | none => rw [ej] at hd; cases hd
  | some j =>
    rw [ej] at hd
    obtain rfl : partJ j = d := Option.some.inj hd
    obtain ⟨q, ys, rfl, hS, hA⟩ := hv.tuple
    obtain ⟨v, w, rfl, hv1, hv2⟩ := hA.two
    cases hv1; cases hv2
    exact ⟨j, q, rfl, rfl, hS⟩
/-- a work kept at an address, its share at another -/
def Wk (H : Hp) (b : Addr) (t : Addr × Addr × Job) : Prop := t.1 ≠ b ∧ H t.1 = some (.tup [.str t.2.2.1, .ref t.2.1]) ∧ t.2.1 ≠ b ∧ H t.2.1 = some (.tup [.int (t.2.2.2.1 : Int), .int (t.2.2.2.2 : Int)])
/-- tuples off b stay -/
def TupB (b : Addr) (H H' : Hp) : Prop := ∀ a xs, a ≠ b → H a = some (.tup xs) → H' a = some (.tup xs)
theorem Wk.step {H H' : Hp} {b : Addr} {t : Addr × Addr × Job} (h : Wk H b t) (s : TupB b H H') : Wk H' b t := ⟨h.1, s _ _ h.1 h.2.1, h.2.2.1, s _ _ h.2.2.1 h.2.2.2⟩
theorem TupB.of {b : Addr} {H H' : Hp} (s : But b H H') : TupB b H H' := fun _ _ n h => s _ _ n h
theorem TupB.trans {b : Addr} {H H' H'' : Hp} (s : TupB b H H') (t : TupB b H' H'') : TupB b H H'' := fun a xs n h => t a xs n (s a xs n h)
theorem TupB.lst {b c : Addr} {H : Hp} {xs : List V} {o : HO} (h : H c = some (.lst xs)) : TupB b H (upd H c o) := fun a ys _ e => by rw [upd_ne (fun z => by rw [z, h] at e; cases e)]; exact e
theorem TupB.new {b c : Addr} {H : Hp} {o : HO} (h : H c = none) : TupB b H (upd H c o) := fun a ys _ e => same_new h _ _ e
theorem Wk.dp {K : PySem.W.Frag} {H : Hp} {b : Addr} {t : Addr × Addr × Job} (h : Wk H b t) : Dp K (hid b H) (.ref t.1) (jobD t.2.2) :=
  .tup (SqT.of ((hid_ne h.1).trans h.2.1)) (.cons (.str _) (.cons (.tup (SqT.of ((hid_ne h.2.2.1).trans h.2.2.2)) (.cons (.int _) (.cons (.int _) .nil))) .nil))
theorem Wk.all {K : PySem.W.Frag} {H : Hp} {b : Addr} : ∀ {ws : List (Addr × Addr × Job)}, (∀ t ∈ ws, Wk H b t) → DpAll K (hid b H) (ws.map fun t => V.ref t.1) ((ws.map fun t => t.2.2).map jobD)
  | [], _ => .nil
  | t :: ws, h => .cons (h t List.mem_cons_self).dp (Wk.all fun x hx => h x (List.mem_cons_of_mem _ hx))
theorem num_okB {n : Nat} (h : n ≤ 1000) : ((n : Nat) : Int).natAbs.log2 < 1920 := by
  show n.log2 < 1920
  by_cases z : n = 0
  · subst z; decide
  · exact Nat.lt_trans ((Nat.log2_lt z).mpr (show n < 2 ^ 10 by omega)) (by decide)
end Ts
namespace Ts
open PySem PySem.Spec PyProof.Rows L2 L2H LamX
/-! ## xs[k] read where xs[k] += e -/
def rGetL : V → V → Hp → VK → Prop := fun o i H Q => ∃ (p : Addr) (xs : List V) (k : Nat) (y : V), o = .ref p ∧ i = .int (k : Int) ∧ H p = some (.lst xs) ∧ xs[k]? = some y ∧ Q y H
theorem get_listP {X : Cx} : PGet X rGetL := by
  intro pins s σ H o i ov iv Q I r1 r2 h
  obtain ⟨p, xs, k, y, rfl, rfl, hp, hy, q⟩ := h
  cases r1
  obtain ⟨t, rfl⟩ := r2
  obtain ⟨its, r, pl, hz⟩ := I.list (SqL.of hp)
  obtain ⟨w, ew, rw'⟩ := r.get hy
  have hl := r.length
  have hn := line63
  have hk := (List.getElem?_eq_some_iff.mp hy).1
  exact wpAny_getItem_list pl.isList (by omega) (by omega) (by simpa using ew) ⟨y, H, I, rw', q⟩
/-! ## members of a tick -/
def ascB (many : Int) : List (Option Int) → Int → Bool
  | [], _ => true
  | o :: r, least => inRg o least (many - 1) && ascB many r (o.getD 0 + 1)
def membersB (many most : Int) : Option (List (Option Int)) → Bool
  | none => false
  | some os => decide ((os.length : Int) ≤ most) && ascB many os 0
theorem sqt_ty37 {K : PySem.W.Frag} {H : Hp} {a : Addr} {xs : List V} (h : SqT K H a xs) : TyX K H (.ref a) (.type "tuple") := by
  rcases h with (h | ⟨o, h⟩) | ⟨o, its, n, e, c, _⟩
  · exact .base (.tup h)
  · exact .fTuple h
  · exact .kTuple e c
/-- a thing that is perhaps a tuple -/
def ThingS (K : PySem.W.Frag) (H : Hp) (v : V) : Option (List (Option Int)) → Prop
  | some os => ∃ (p : Addr) (xs : List V), v = .ref p ∧ SqT K H p xs ∧ xs.length = os.length ∧ ∀ (i : Nat) (x : V) (o : Option Int), xs[i]? = some x → os[i]? = some o → KindV K H x o
  | none => ∃ T, T ∈ ["int", "bool", "str", "NoneType", "list", "dict"] ∧ TyX K H v (.type T)
theorem ThingAt.s {K : PySem.W.Frag} {H : Hp} {v : V} {t : Option (List (Option Int))} (h : ThingAt K H v t) : ThingS K H v t := by
  cases t with
  | none => exact h
  | some os => obtain ⟨p, xs, h1, h2, h3, h4⟩ := h; exact ⟨p, xs, h1, SqT.of h2, h3, h4⟩
theorem ThingS.mono {K : PySem.W.Frag} {H H' : Hp} {v : V} {t : Option (List (Option Int))} (h : ThingS K H v t) (s : Same H H') : ThingS K H' v t := by
  cases t with
  | none => obtain ⟨T, h1, h2⟩ := h; exact ⟨T, h1, TyX.mono h2 s⟩
  | some os => obtain ⟨p, xs, h1, h2, h3, h4⟩ := h; exact ⟨p, xs, h1, sameT s h2, h3, fun i x o a b => (h4 i x o a b).mono s⟩
def spMembers (K : PySem.W.Frag) : Sp := fun vs H Q _ => ∃ (v : V) (many most : Int) (t : Option (List (Option Int))), vs = [v, .int many, .int most] ∧ ThingS K H v t ∧ Q (.bl (membersB many most t)) H
/-! ## counts -/
/-! ## ticks had -/
def keptM (js : List Job) (t : Int) (ns : List Int) : List Bool := List.zipWith (fun j a => keptZ (j.2.1 : Int) (j.2.2 : Int) t a) js ns
def keptAll (js : List Job) (t : Int) (ns : List Int) : Bool := (keptM js t ns).all id
theorem keptM_at {js : List Job} {t : Int} {ns : List Int} {i : Nat} {j : Job} {a : Int} (hj : js[i]? = some j) (ha : ns[i]? = some a) : (keptM js t ns).take (i + 1) = (keptM js t ns).take i ++ [keptZ (j.2.1 : Int) (j.2.2 : Int) t a] := by
  have e : (keptM js t ns)[i]? = some (keptZ (j.2.1 : Int) (j.2.2 : Int) t a) := by
    unfold keptM
    rw [List.getElem?_zipWith, hj, ha]
  rw [List.take_add_one, e]; rfl
theorem keptM_len {js : List Job} {t : Int} {ns : List Int} (h : ns.length = js.length) : (keptM js t ns).length = js.length := by
  unfold keptM
  rw [List.length_zipWith, h, Nat.min_self]
/-- what has been had: a list of counts, none too great -/
def spAreKept (K : PySem.W.Frag) : Sp := fun vs H Q _ => ∃ (a c : Addr) (xs : List V) (js : List Job) (t : Int) (ns : List Int), vs = [.ref a, .int t, .ref c] ∧ SqT K H a xs ∧ DpAll K H xs (sharesD js) ∧ SqL K H c (ns.map V.int) ∧ js.length ≤ 6 ∧ ns.length = js.length ∧ -(2 ^ 64) < t ∧ t < 2 ^ 64 ∧ (∀ n ∈ ns, -(2 ^ 64) < n ∧ n < 2 ^ 64) ∧
  ∀ H', Same H H' → Q (.bl (keptAll js t ns)) H'
end Ts
namespace Ts
open PySem PySem.Spec PyProof.Rows L2 L2H LamX
/-! ## zip of a tuple and a list -/
def ItzM (K : PySem.W.Frag) (a b : Addr) : It :=
  ⟨fun i H => ∃ xs ys x y, (SqT K H a xs ∧ xs[i]? = some x) ∧ SqL K H b ys ∧ ys[i]? = some y,
   fun i H v H' => ∃ T x y, (v = V.ref T ∧ H T = none) ∧ (H' = upd H T (.tup [x, y])) ∧ (∀ xs, SqT K H a xs → xs[i]? = some x) ∧ (∀ ys, SqL K H b ys → ys[i]? = some y),
   fun i H => ∃ xs ys, SqT K H a xs ∧ SqL K H b ys ∧ i = min xs.length ys.length⟩
def ZipSt (z TI TO i1 i2 a b : Addr) : Nat → Heap → Prop := fun i h => IsZip h z TI TO .none ∧ IsTupOf2 h TI (.ref i1) (.ref i2) ∧ (∃ x y, IsTupOf2 h TO x y) ∧ h.IsTupleIter i1 a i ∧ h.IsListIter i2 b i
theorem five {z TI TO i1 i2 c : Addr} (h : c ∈ [z, TI, TO, i1, i2]) : c = z ∨ c = TI ∨ c = TO ∨ c = i1 ∨ c = i2 := by simpa using h
theorem ZipSt.lives {z TI TO i1 i2 a b : Addr} {i : Nat} {h : Heap} (st : ZipSt z TI TO i1 i2 a b i h) : ∀ c ∈ [z, TI, TO, i1, i2], ∃ o, h.get? c = some o ∧ ∀ v, o.data ≠ .cell v := by
  obtain ⟨g1, g2, ⟨x, y, g3⟩, ⟨o1, e1, _, d1⟩, ⟨o2, e2, _, d2⟩⟩ := st
  intro c hc
  rcases five hc with rfl | rfl | rfl | rfl | rfl
  · exact ⟨_, g1, fun _ => nofun⟩
  · exact ⟨_, g2, fun _ => nofun⟩
  · exact ⟨_, g3, fun _ => nofun⟩
  · exact ⟨o1, e1, fun v w => by rw [d1] at w; cases w⟩
  · exact ⟨o2, e2, fun v w => by rw [d2] at w; cases w⟩
theorem turn_zipM {P : Program} {w : World} {K : PySem.W.Frag} {elts : List Expr} {kk : Nat} {tpos : Pos} {a b z TI TO i1 i2 : Addr} (S : ZipSep2 z TI TO i1 i2 [i1, a] [i2, b]) (h1 : a ≠ i1) (h2 : b ≠ i2) :
    Turn P w K (.Tuple elts kk tpos) (ItzM K a b) [z, TI, TO, i1, i2] z (ZipSt z TI TO i1 i2 a b) where
  mem := List.mem_cons_self
  obj := fun _ _ st => st.lives
  keep := fun i h h' st k => by
    obtain ⟨g1, g2, ⟨x, y, g3⟩, g4, g5⟩ := st
    exact ⟨k z (by simp) _ g1, k TI (by simp) _ g2, ⟨x, y, k TO (by simp) _ g3⟩, g4.at fun o e => k i1 (by simp) o e, g5.at fun o e => k i2 (by simp) o e⟩
  item := by
    intro X hP hw hK hc i pins s σ H E I hf st hg
    subst hP hw hK
    obtain ⟨xs, ys, x, y, ⟨qx, ex⟩, qy, ey⟩ := hg
    have live := st.lives
    obtain ⟨g1, g2, g3, g4, g5⟩ := st
    obtain ⟨its, rv, p, _⟩ := I.tuple qx
    obtain ⟨its2, rv2, p2, _⟩ := I.list qy
    obtain ⟨u, eu, ru⟩ := rv.get ex
    obtain ⟨u2, eu2, ru2⟩ := rv2.get ey
    have hd : X.A.in1.handled = none := I.ok.hd hc
    have G := GoesN.zip2 (prog := X.prog) (w := X.w) (elts := elts) (x1 := kk) (pos := tpos) S (Draws.tuple hd i1 a h1 its.toArray) (Draws.list hd i2 b h2 its2.toArray)
    have li : i < min its.toArray.size its2.toArray.size := by
      have m1 := (List.getElem?_eq_some_iff.mp eu).1
      have m2 := (List.getElem?_eq_some_iff.mp eu2).1
      simp only [List.size_toArray]; omega
    refine G.goes i s _ E li ⟨g1, g2, g3, ⟨g4, p⟩, g5, p2.isList⟩ fun v h' tk hv st2 hk _ => ?_
    obtain ⟨T, w1, w2, rfl, hT, e1, e2, tup⟩ := hv
    obtain rfl : u = w1 := by
      have : its.toArray[i]? = some u := by simpa using eu
      exact Option.some.inj (this.symm.trans e1)
    obtain rfl : u2 = w2 := by
      have : its2.toArray[i]? = some u2 := by simpa using eu2
      exact Option.some.inj (this.symm.trans e2)
    obtain ⟨k1, k2, k3, ⟨k4, _⟩, k5, _⟩ := st2
    have new : ObjOk X.prog X.w (upd H T (.tup [x, y])) h' T (.tup [x, y]) := ⟨by show 2 ≤ sizeLine; decide, [u, u2], .cons ru (.cons ru2 .nil), tup⟩
    have I1 : Inv X pins σ (upd H T (.tup [x, y])) { s with heap := h', toks := tk } := I.turnedNew (t' := tk) (ch := [z, TI, TO, i1, i2]) (fun c o hb q => hk c o (fun n => hb (by
      have : c = z ∨ c = TO ∨ c = i1 ∨ c = i2 := by simpa using n
      rcases this with rfl | rfl | rfl | rfl <;> simp)) q) hf hT new
    refine ⟨.ref T, _, I1, rfl, ⟨T, x, y, ⟨rfl, I.hok.fresh hT⟩, rfl, fun l hl => by rw [I.tuple_inj hl qx]; exact ex, fun l hl => by rw [I.list_inj hl qy]; exact ey⟩, ⟨k1, k2, k3, k4, k5⟩, fun c hc' => ?_⟩
    obtain ⟨o, lo, _⟩ := live c hc'
    rw [upd_ne (Nat.ne_of_lt (Nat.lt_of_lt_of_le (Heap.lt_size lo) hT))]
    exact (hf c hc').1
  done := by
    intro X hP hw hK hc i pins s σ H E I hf st hg
    subst hP hw hK
    obtain ⟨xs, ys, qx, qy, rfl⟩ := hg
    obtain ⟨g1, g2, g3, g4, g5⟩ := st
    obtain ⟨its, rv, p, _⟩ := I.tuple qx
    obtain ⟨its2, rv2, p2, _⟩ := I.list qy
    have hd : X.A.in1.handled = none := I.ok.hd hc
    have G := GoesN.zip2 (prog := X.prog) (w := X.w) (elts := elts) (x1 := kk) (pos := tpos) S (Draws.tuple hd i1 a h1 its.toArray) (Draws.list hd i2 b h2 its2.toArray)
    have em : min its.toArray.size its2.toArray.size = min xs.length ys.length := by rw [List.size_toArray, List.size_toArray, rv.length, rv2.length]
    refine G.stops s _ E ?_ fun h' tk hk _ => ?_
    · rw [em]; exact ⟨g1, g2, g3, ⟨g4, p⟩, g5, p2.isList⟩
    · exact I.turnedL (t' := tk) (ch := [z, TI, TO, i1, i2]) (fun c o hb q => hk c o (fun n => hb (by
        have : c = z ∨ c = TO ∨ c = i1 ∨ c = i2 := by simpa using n
        rcases this with rfl | rfl | rfl | rfl <;> simp)) q) hf
  self := fun _ _ _ _ _ st h => wpAny_pyIter_zip st.1 h
def iZipM (K : PySem.W.Frag) (ta : TA) : TI := fun σ H R => ta σ H fun vs H1 => ∃ a b xs ys, vs = [V.ref a, V.ref b] ∧ SqT K H1 a xs ∧ SqL K H1 b ys ∧ R (ItzM K a b) H1
theorem pi_zipM {X : Cx} {K : PySem.W.Frag} (hXK : X.K = K) {e1 e2 : Expr} {ta : TA} {p pos tpos : Pos} {elts : List Expr} {kk : Nat} (hg : Gl X "zip") (hm : X.mg "zip" = none) (ha : PA X [e1, e2] ta)
    (h1 : starEach [e1, e2] X.env = (false, eval e1 X.env) :: starEach [e2] X.env := by rfl)
    (h2 : (backTo pos (starEach [e2] X.env)).any (·.1) = false := by rfl) : PI X (.Tuple elts kk tpos) (.Call (.Name "zip" p) [e1, e2] [] pos) (iZipM K ta) := by
  subst hXK
  refine ⟨fun pins s σ H R I h => Call_ (ld_blt I hg hm PyProof.Rows.boot_zip (PyProof.Rows.callWith_type1 (thn (ha.run pos pins s σ H _ I h) fun us s1 ⟨vs, H1, I1, r1, a, b, xs, ys, ev, qx, qy, q⟩ => ?_) h1 h2))⟩
  subst ev
  obtain ⟨u1, u2, rfl, r, r2⟩ := vals2 r1
  obtain rfl : u1 = Value.ref a := r
  obtain rfl : u2 = Value.ref b := r2
  obtain ⟨its, rv, p1, _⟩ := I1.tuple qx
  obtain ⟨its2, rv2, p2, _⟩ := I1.list qy
  have la : a < s1.heap.objs.size := by obtain ⟨o, ho, _⟩ := id p1; exact Heap.lt_size ho
  have lb : b < s1.heap.objs.size := by obtain ⟨o, ho, _⟩ := id p2.isList; exact Heap.lt_size ho
  refine zip_begins2 (begins_tuple a its.toArray) (begins_list b its2.toArray) p1 p2.isList fun h' hz hTI hTO g1 g2 _ hk => wpAny_pyIter_zip hz ?_
  have I2 : Inv X pins σ H1 { s1 with heap := h' } := I1.kept (t' := s1.toks) hk
  refine ⟨s1.heap.objs.size + 4, [s1.heap.objs.size + 4, s1.heap.objs.size + 2, s1.heap.objs.size + 3, s1.heap.objs.size, s1.heap.objs.size + 1], _, _, H1, rfl, I2,
    turn_zipM (zip_sep2 (fun c hc => by rw [List.mem_singleton.mp hc]; exact la) (fun c hc => by rw [List.mem_singleton.mp hc]; exact lb)) (Nat.ne_of_lt la) (Nat.ne_of_lt (Nat.lt_succ_of_lt lb)), ⟨hz, hTI, ⟨_, _, hTO⟩, ⟨_, g1, rfl, rfl⟩, ⟨_, g2, rfl, rfl⟩⟩, fun c hc => ?_, q⟩
  have le : s1.heap.objs.size ≤ c := by
    rcases five hc with rfl | rfl | rfl | rfl | rfl
    · exact Nat.le_add_right _ _
    · exact Nat.le_add_right _ _
    · exact Nat.le_add_right _ _
    · exact Nat.le_refl _
    · exact Nat.le_add_right _ _
  exact I1.fpOk le (I1.hok.fresh le)
theorem walk_zipM {K : PySem.W.Frag} {a b : Addr} {xs ys : List V} {n : Nat} (hn : n = min xs.length ys.length) : Walk (ItzM K a b) n (fun H => SqT K H a xs ∧ SqL K H b ys) (YPair (fun i => xs[i]?) (fun i => ys[i]?)) where
  goes := fun i H hi g => ⟨xs, ys, xs[i], ys[i], ⟨g.1, List.getElem?_eq_getElem (by omega)⟩, g.2, List.getElem?_eq_getElem (by omega)⟩
  stops := fun H g => ⟨xs, ys, g.1, g.2, hn⟩
  yields := fun i H v H' hi g y => by
    obtain ⟨T, x, y, ⟨h1, h2⟩, h3, h4, h5⟩ := y
    exact ⟨T, x, y, h1, h2, h3, h4 xs g.1, h5 ys g.2⟩
/-! ## a certificate that tells the works of each tick -/
abbrev TabT := Option (List (Option (List (Option Int))))
def TabP (K : PySem.W.Frag) (H : Hp) (v : V) : TabT → Prop
  | some rs => ∃ (p : Addr) (xs : List V), v = .ref p ∧ SqT K H p xs ∧ xs.length = rs.length ∧ ∀ (i : Nat) (x : V) (r : Option (List (Option Int))), xs[i]? = some x → rs[i]? = some r → ThingS K H x r
  | none => ∃ T, T ∈ ["int", "bool", "str", "NoneType", "list", "dict"] ∧ TyX K H v (.type T)
theorem TabP.mono {K : PySem.W.Frag} {H H' : Hp} {v : V} {t : TabT} (h : TabP K H v t) (s : Same H H') : TabP K H' v t := by
  cases t with
  | none => obtain ⟨T, h1, h2⟩ := h; exact ⟨T, h1, TyX.mono h2 s⟩
  | some rs => obtain ⟨p, xs, h1, h2, h3, h4⟩ := h; exact ⟨p, xs, h1, sameT s h2, h3, fun i x o a b => (h4 i x o a b).mono s⟩
def inc1 (had : List Int) (k : Nat) : List Int := had.set k (had.getD k 0 + 1)
def incAll (had : List Int) : List (Option Int) → List Int
  | [] => had
  | o :: r => incAll (inc1 had (o.getD 0).toNat) r
def keepsGo (js : List Job) (cs : List Int) : List (Option (List (Option Int))) → Nat → List Int → Bool
  | [], _, _ => true
  | r :: rs, m, had => membersB (js.length : Int) (cs.getD m 0) r && (keptAll js ((m : Int) + 1) (incAll had (r.getD [])) && keepsGo js cs rs (m + 1) (incAll had (r.getD [])))
def keepsB (js : List Job) (cs : List Int) : TabT → Bool
  | none => false
  | some rs => decide (rs.length = cs.length) && keepsGo js cs rs 0 (List.replicate js.length 0)
theorem inc1_len {had : List Int} {k : Nat} : (inc1 had k).length = had.length := List.length_set
theorem incAll_len : ∀ (os : List (Option Int)) (had : List Int), (incAll had os).length = had.length
  | [], _ => rfl
  | _ :: r, _ => (incAll_len r _).trans inc1_len
theorem inc1_in {had : List Int} {k : Nat} {m : Int} (h : ∀ n ∈ had, 0 ≤ n ∧ n ≤ m) (hm : 0 ≤ m) : ∀ n ∈ inc1 had k, 0 ≤ n ∧ n ≤ m + 1 := fun n hn => by
  rcases List.mem_or_eq_of_mem_set hn with z | z
  · have := h n z; omega
  · have : 0 ≤ had.getD k 0 ∧ had.getD k 0 ≤ m := by
      rw [List.getD_eq_getElem?_getD]
      cases e : had[k]? with
      | none => exact ⟨Int.le_refl _, hm⟩
      | some y => exact h y (List.mem_of_getElem? e)
    omega
theorem incAll_in : ∀ (os : List (Option Int)) (had : List Int) (m : Int), 0 ≤ m → (∀ n ∈ had, 0 ≤ n ∧ n ≤ m) → ∀ n ∈ incAll had os, 0 ≤ n ∧ n ≤ m + (os.length : Int)
  | [], _, m, _, h, n, hn => by have := h n hn; exact ⟨this.1, by show n ≤ m + 0; omega⟩
  | _ :: r, had, m, hm, h, n, hn => by
    have := incAll_in r _ (m + 1) (by omega) (inc1_in h hm) n hn
    rw [List.length_cons]
    omega
theorem ascB_in {many : Int} : ∀ (os : List (Option Int)) (least : Int), ascB many os least = true → 0 ≤ least → ∀ (i : Nat) (o : Option Int), os[i]? = some o → ∃ j : Nat, o = some (j : Int) ∧ (j : Int) < many
  | [], _, _, _, i, o, h => by cases h
  | x :: r, least, hb, h0, i, o, h => by
    have hb' : (inRg x least (many - 1) && ascB many r (x.getD 0 + 1)) = true := hb
    rw [Bool.and_eq_true] at hb'
    obtain ⟨b1, b2⟩ := hb'
    cases x with
    | none => cases b1
    | some y =>
      have hy := of_decide_eq_true b1
      cases i with
      | zero =>
        cases h
        exact ⟨y.toNat, by rw [Int.toNat_of_nonneg (by omega)], by omega⟩
      | succ i => exact ascB_in r (y + 1) b2 (by omega) i o h
def spKeepsAll (K : PySem.W.Frag) : Sp := fun vs H Q _ => ∃ (a c : Addr) (v : V) (xs : List V) (js : List Job) (cs : List Int) (t : TabT), vs = [.ref a, .ref c, v] ∧ SqT K H a xs ∧ DpAll K H xs (sharesD js) ∧ SqT K H c (cs.map V.int) ∧ 0 < js.length ∧ js.length ≤ 6 ∧ cs.length ≤ 1000 ∧ (∀ n ∈ cs, n ≤ 1000) ∧ TabP K H v t ∧
  ∀ H', Same H H' → Q (.bl (keepsB js cs t)) H'
theorem rep_flat : ∀ n : Nat, (List.replicate n [V.int 0]).flatten = (List.replicate n (0 : Int)).map V.int
  | 0 => rfl
  | n + 1 => by rw [List.replicate_succ, List.flatten_cons, rep_flat n, List.replicate_succ]; rfl
/-! ## counts that are valid -/
end Ts
namespace Ts
open PySem PySem.Spec PyProof.Rows L2
theorem hu2 {A : Around} (h : A.units + 64 < cLine) : A.in1.in1.units < cLine := by show A.units + 1 + 1 < cLine; omega
/-! ## who is ahead -/
abbrev handsL (n : Nat) (js : List Job) : List Nat := List.replicate (spanN js) n
/-! ## what is asked -/
/-! ## rows -/
/-! ## the crews of a choice: only the first may be empty -/
end Ts
namespace Ts
open PySem PySem.Spec PyProof.Rows L2
/-! ## the draws of the laws of standings, tables, rules .. -/
def spCell (K : PySem.W.Frag) : Sp := fun vs H Q _ => ∃ (a : Addr) (ns : List Int) (i : Nat), vs = [.ref a, .int i] ∧ SqL K H a (ns.map V.int) ∧ ns.length ≤ 63 ∧ i < 1000 ∧ ∀ (x : Int) (H' : Hp), Same H H' → Q (.int x) H'
def spTakeJ (K : PySem.W.Frag) : Sp := fun vs H Q _ => ∃ (b p : Addr) (xs : List V), vs = [.ref b, .ref p] ∧ Bas H b ∧ SqL K (hid b H) p xs ∧ 0 < xs.length ∧ xs.length ≤ 1000 ∧
  ∀ (v : V) (H' : Hp), v ∈ xs → But b H H' → Bas H' b → Q v H'
/-- small rounds -/
def Div12 (js : List Job) : Prop := ∀ j ∈ js, j.2.2 ∣ 12
theorem span12 {js : List Job} (h : Div12 js) : spanN js ∣ 12 := span_of_all h
theorem span12_le {js : List Job} (h : Div12 js) : spanN js ≤ 12 := Nat.le_of_dvd (by decide) (span12 h)
def spLotJ (K : PySem.W.Frag) : Sp := fun vs H Q _ => ∃ (b : Addr) (m : Nat), vs = [.ref b, .int (m : Int)] ∧ Bas H b ∧ 1 ≤ m ∧ m ≤ 4 ∧
  ∀ (n : Nat) (js : List Job) (p q : Addr) (H' : Hp), 1 ≤ n → n ≤ 6 → 0 < js.length → js.length ≤ m → Good 16 js → Div12 js → But b H H' → Bas H' b → H p = none → H' p = some (.tup [.int (n : Int), .ref q]) → Dp K (hid b H') (.ref q) (jobsD js) → Q (.ref p) H'
def spTextJ (K : PySem.W.Frag) : Sp := fun vs H Q _ => ∃ (p q : Addr) (n : Nat) (js : List Job), vs = [.ref p] ∧ SqT K H p [.int (n : Int), .ref q] ∧ Dp K H (.ref q) (jobsD js) ∧ Good 1000 js ∧ n ≤ 1000 ∧ js.length ≤ 20 ∧ ∀ H', Same H H' → Q (.str (pageS n js)) H'
def spSpanJ (K : PySem.W.Frag) : Sp := fun vs H Q _ => ∃ (p q : Addr) (n : Nat) (js : List Job), vs = [.ref p] ∧ SqT K H p [.int (n : Int), .ref q] ∧ Dp K H (.ref q) (jobsD js) ∧ Good 16 js ∧ Div12 js ∧ js.length ≤ 6 ∧ ∀ H', Same H H' → Q (.int (spanN js : Int)) H'
/-! ## the menus -/
def menuL : List (Nat × Nat) := [(1, 1), (1, 2), (1, 3), (2, 3), (1, 4), (3, 4), (1, 6), (5, 6), (1, 2), (2, 3)]
theorem menu_ok : ∀ q ∈ menuL, GoodPart 16 q.1 q.2 ∧ q.2 ∣ 12 := by
  have go : ∀ q ∈ menuL, (1 ≤ q.1 ∧ q.1 ≤ q.2 ∧ q.2 ≤ 16 ∧ Nat.gcd q.1 q.2 = 1) ∧ q.2 ∣ 12 := by decide
  exact go
def tagsL : List (List Str) := [["a", "b", "c", "d"], ["zoe", "bob", "ann", "cat"], ["hands", "work", "q", "x"]]
theorem tags_ok : ∀ ts ∈ tagsL, ts.length = 4 ∧ ts.Nodup ∧ ∀ t ∈ ts, IsTag t := by
  have go : ∀ ts ∈ tagsL, ts.length = 4 ∧ ts.Nodup ∧ ∀ t ∈ ts, 1 ≤ t.length ∧ t.length ≤ 8 ∧ ∀ c ∈ t.cps.toList, 97 ≤ c ∧ c ≤ 122 := by decide +kernel
  exact go
/-! ## data of tuples and texts alone -/
inductive TupS : PyData → Prop
  | int (i : Int) : TupS (.int i)
  | str (t : Str) : TupS (.str t)
  | tup {ds : List PyData} (h : ∀ d ∈ ds, TupS d) : TupS (.tuple ds)
theorem dp_hideS {K : PySem.W.Frag} {H : Hp} {b : Addr} {l : List V} (hb : H b = some (.lst l)) {d : PyData} (t : TupS d) : ∀ v, Dp K H v d → Dp K (hid b H) v d := by
  induction t with
  | int i => intro v h; cases h.int_eq; exact .int _
  | str i => intro v h; cases h.str_eq; exact .str _
  | tup hs ih =>
    intro v h
    obtain ⟨p, xs, rfl, hS, hA⟩ := h.tuple
    exact .tup (seqT_hide hb hS) (DpAll.imp hA ih)
theorem dpa_butS {K : PySem.W.Frag} {H H' : Hp} {b : Addr} {l : List V} {vs : List V} {ds : List PyData} (hb : H b = some (.lst l)) (bt : But b H H') (t : ∀ d ∈ ds, TupS d) (h : DpAll K H vs ds) : DpAll K H' vs ds :=
  ((DpAll.imp h fun d hd => dp_hideS hb (t d hd)).mono bt.hid).mono hid_sub
theorem tupS_part (e p : Nat) : TupS (partD e p) := .tup fun d hd => by
  rcases List.mem_cons.mp hd with rfl | z
  · exact .int _
  · rcases List.mem_cons.mp z with rfl | z
    · exact .int _
    · cases z
theorem tupS_job (j : Job) : TupS (jobD j) := .tup fun d hd => by
  rcases List.mem_cons.mp hd with rfl | z
  · exact .str _
  · rcases List.mem_cons.mp z with rfl | z
    · exact tupS_part _ _
    · cases z
theorem tupS_jobs {js : List Job} : ∀ d ∈ js.map jobD, TupS d := fun d hd => by
  obtain ⟨j, _, rfl⟩ := List.mem_map.mp hd
  exact tupS_job j
theorem Bas.set_other {H : Hp} {b D : Addr} {o : HO} (h : Bas H b) (n : D ≠ b) : Bas (upd H D o) b := by
  obtain ⟨x, y, z, e⟩ := h
  exact ⟨x, y, z, by rw [upd_ne (Ne.symm n)]; exact e⟩
theorem need_range {js : List Job} (G : Good 16 js) (D : Div12 js) (l0 : 0 < js.length) : 1 ≤ (js.map fun j => 12 * j.2.1 / j.2.2).sum ∧ (js.map fun j => 12 * j.2.1 / j.2.2).sum ≤ 12 * js.length := by
  have each : ∀ j ∈ js, 1 ≤ 12 * j.2.1 / j.2.2 ∧ 12 * j.2.1 / j.2.2 ≤ 12 := fun j hj => by
    obtain ⟨g1, g2, g3, _⟩ := G.part j hj
    have h12 : j.2.2 ≤ 12 := Nat.le_of_dvd (by decide) (D j hj)
    refine ⟨(Nat.le_div_iff_mul_le (by omega)).mpr (by omega), ?_⟩
    have : 12 * j.2.1 / j.2.2 ≤ 12 * j.2.2 / j.2.2 := Nat.div_le_div_right (Nat.mul_le_mul_left _ g2)
    rw [Nat.mul_div_cancel _ (by omega)] at this
    exact this
  have go : ∀ l : List Job, (∀ j ∈ l, 1 ≤ 12 * j.2.1 / j.2.2 ∧ 12 * j.2.1 / j.2.2 ≤ 12) → l.length ≤ (l.map fun j => 12 * j.2.1 / j.2.2).sum ∧ (l.map fun j => 12 * j.2.1 / j.2.2).sum ≤ 12 * l.length := by
    intro l
    induction l with
    | nil => intro _; exact ⟨Nat.le_refl _, Nat.le_refl _⟩
    | cons j l ih =>
      intro h
      obtain ⟨a, b⟩ := ih fun x hx => h x (List.mem_cons_of_mem _ hx)
      obtain ⟨c, d⟩ := h j List.mem_cons_self
      rw [List.map_cons, List.sum_cons, List.length_cons]
      omega
  obtain ⟨a, b⟩ := go js each
  exact ⟨by omega, b⟩
/-- the rounds that all bottoms divide -/
theorem rounds_first {js : List Job} (G : Good 16 js) (D : Div12 js) : ∃ l : List Nat, ((List.range 12).map (· + 1)).filter (fun k => (js.filter fun j => decide (k % j.2.2 ≠ 0)).isEmpty) = spanN js :: l := by
  have s0 := span_pos G
  have s1 := span12_le D
  have ok : ∀ k, ((js.filter fun j => decide (k % j.2.2 ≠ 0)).isEmpty = true) ↔ spanN js ∣ k := fun k => by
    rw [List.isEmpty_iff, List.filter_eq_nil_iff]
    constructor
    · intro h
      refine span_of_all fun j hj => Nat.dvd_of_mod_eq_zero ?_
      have := h j hj
      simpa using this
    · intro h j hj
      have := Nat.mod_eq_zero_of_dvd (Nat.dvd_trans (dvd_span hj) h)
      simp [this]
  have e : (List.range 12).map (· + 1) = ((List.range (spanN js - 1)).map (· + 1)) ++ spanN js :: ((List.range (12 - spanN js)).map fun i => spanN js + 1 + i) := by
    have go : ∀ s : Fin 13, 0 < s.val → (List.range 12).map (· + 1) = ((List.range (s.val - 1)).map (· + 1)) ++ s.val :: ((List.range (12 - s.val)).map fun i => s.val + 1 + i) := by decide
    exact go ⟨spanN js, by omega⟩ s0
  rw [e, List.filter_append, List.filter_cons, if_pos ((ok _).mpr (Nat.dvd_refl _))]
  have e0 : ((List.range (spanN js - 1)).map (· + 1)).filter (fun k => (js.filter fun j => decide (k % j.2.2 ≠ 0)).isEmpty) = [] := by
    rw [List.filter_eq_nil_iff]
    intro k hk h
    obtain ⟨i, hi, rfl⟩ := List.mem_map.mp hk
    have hi := List.mem_range.mp hi
    have := Nat.le_of_dvd (by omega) ((ok _).mp h)
    omega
  rw [e0]
  exact ⟨_, rfl⟩
theorem shaped_lst {ds : List PyData} (h : ∀ d ∈ ds, d.canLay0 = true ∧ d.depth ≤ 60) : SeqAt.shaped (.list ds) = true := by
  obtain ⟨h1, h2⟩ := lay_all h
  unfold SeqAt.shaped
  rw [show PyData.canLay0 (.list ds) = true from h1, decide_eq_true (show PyData.depth (.list ds) ≤ 64 by show PyData.depthAll ds + 1 ≤ 64; omega)]; rfl
theorem shaped_intL (l : List Int) : SeqAt.shaped (.list (l.map PyData.int)) = true := shaped_lst fun d hd => by
  obtain ⟨x, _, rfl⟩ := List.mem_map.mp hd
  exact ⟨rfl, Nat.zero_le _⟩
theorem eqv_intL (l : List Int) : (PyData.list (l.map PyData.int)).eqv (.list []) = l.isEmpty := by cases l <;> rfl
/-! ## so many rounds later -/
end Ts
namespace Ts
open PySem PySem.Spec PyProof.Rows L2
/-- a drawn lot, and the lot of the package that it makes -/
structure Own (K : PySem.W.Frag) (C : Addr) (H : Hp) (b p q x : Addr) (n : Nat) (js : List Job) : Prop where
  B : Bas H b
  e : H p = some (.tup [.int (n : Int), .ref q])
  d : Dp K (hid b H) (.ref q) (jobsD js)
  L : LotAt K C (hid b H) x n js
theorem Own.step {K : PySem.W.Frag} {C : Addr} {H H' : Hp} {b p q x : Addr} {n : Nat} {js : List Job} (o : Own K C H b p q x n js) (bt : But b H H') (B : Bas H' b) : Own K C H' b p q x n js := by
  have np : p ≠ b := by
    obtain ⟨y, z, u, e⟩ := o.B
    intro h
    have h2 := o.e
    rw [h, e] at h2
    cases h2
  exact ⟨B, bt _ _ np o.e, o.d.mono bt.hid, o.L.mono bt.hid⟩
theorem Own.same {K : PySem.W.Frag} {C : Addr} {H H' : Hp} {b p q x : Addr} {n : Nat} {js : List Job} (o : Own K C H b p q x n js) (s : Same H H') : Own K C H' b p q x n js := o.step (But.of_same s) (o.B.on s)
theorem Own.lot {K : PySem.W.Frag} {C : Addr} {H : Hp} {b p q x : Addr} {n : Nat} {js : List Job} (o : Own K C H b p q x n js) : LotAt K C H x n js := o.L.mono hid_sub
theorem Own.jobs {K : PySem.W.Frag} {C : Addr} {H : Hp} {b p q x : Addr} {n : Nat} {js : List Job} (o : Own K C H b p q x n js) : Dp K H (.ref q) (jobsD js) := o.d.mono hid_sub
theorem tup_off {H : Hp} {b p : Addr} {xs : List V} (h : H p = some (.tup xs)) (B : Bas H b) : p ≠ b := by
  obtain ⟨y, z, u, e⟩ := B
  rintro rfl
  rw [e] at h; cases h
end Ts
namespace Ts
open PySem PySem.Spec PyProof.Rows L2 L2H LamX
/-! ## a value that is a standing -/
def inLH (t : Int) : List Job → List PyData → Bool
  | [], [] => true
  | j :: js, d :: ds => inRg (kindD d) (lowI j.2.1 j.2.2 t) (highI j.2.1 j.2.2 t) && inLH t js ds
  | _, _ => false
def stB (js : List Job) (t : Int) : Option PyData → Bool
  | some (.tuple ds) => inLH t js ds
  | _ => false
/-! ## what refuses -/
/-! ## what is due -/
end Ts
namespace Ts
open PySem PySem.Spec PyProof.Rows L2 L2H LamX
/-! ## data of which the text is sound -/
structure OkF (w e : Nat) (d : PyData) : Prop where
  f : Fine w e d
  ok : PyData.strOk d.shown = true
theorem OkF.mono {w w' e e' : Nat} {d : PyData} (h : OkF w e d) (h1 : w ≤ w') (h2 : e ≤ e') : OkF w' e' d := ⟨h.f.mono h1 h2, h.ok⟩
theorem okf_int {e : Nat} {i : Int} (h0 : -1 ≤ i) (h1 : i < 10 ^ 40) : OkF 140 e (.int i) := by
  by_cases z : i = -1
  · subst z
    exact ⟨⟨by decide +kernel, by decide +kernel, by show (if ((-1 : Int) == 0) = true then 0 else (-1 : Int).natAbs.log2 + 1) ≤ 140; decide +kernel, Nat.zero_le _, rfl⟩, by decide +kernel⟩
  · obtain ⟨n, rfl⟩ := Int.eq_ofNat_of_zero_le (show 0 ≤ i by omega)
    refine ⟨fine_int (by omega) h1, ?_⟩
    have e : (PyData.int ((n : Nat) : Int)).shown = numS n := rfl
    rw [e]
    exact plain_ok (plain_num n)
theorem okf_none {e : Nat} : OkF 0 e .none := ⟨fine_none, by decide +kernel⟩
theorem okf_bool {e : Nat} {b : Bool} : OkF 0 e (.bool b) := ⟨fine_bool, by cases b <;> decide +kernel⟩
theorem okf_str {e : Nat} {x : Str} (h : Plain x) (hl : x.length ≤ 140) : OkF 140 e (.str x) := ⟨⟨rfl, short_str h, hl, Nat.zero_le _, rfl⟩, text_ok h⟩
theorem okf_num {e : Nat} {m : Int} (h0 : 0 ≤ m) (h1 : m < 10 ^ 40) : OkF 140 e (.str (Str.ofString (toString m))) := by
  obtain ⟨n, rfl⟩ := Int.eq_ofNat_of_zero_le h0
  refine okf_str (plain_num n) ?_
  have := (int_big h0 h1).2
  have e : (PyData.int ((n : Nat) : Int)).shown = numS n := rfl
  rw [e] at this
  show (numS n).length ≤ 140
  omega
theorem ok_joinR {S : Str} (hS : PyData.strOk S = true) : ∀ ts : List Str, (∀ t ∈ ts, PyData.strOk t = true) → PyData.strOk (Str.join S ts) = true := fun ts h => by
  unfold PyData.strOk
  rw [← Array.all_toList]
  refine List.all_eq_true.mpr fun c hc => decide_eq_true ?_
  have hc' : c ∈ TL.tl (Str.join S ts) := hc
  rw [TL.tl_join] at hc'
  have sm : ∀ {t : Str}, PyData.strOk t = true → ∀ c ∈ TL.tl t, c < 0x110000 := fun ht c hc => strOk_all ht c hc
  rcases mem_joinL hc' with h2 | ⟨u, hu, h2⟩
  · exact sm hS c h2
  · obtain ⟨t, ht, rfl⟩ := List.mem_map.mp hu
    exact sm (h t ht) c h2
theorem ok_from : ∀ (ts : List Str) (k : Nat) (acc : Str), PyData.strOk acc = true → (∀ t ∈ ts, PyData.strOk t = true) → PyData.strOk (textFrom k acc ts) = true
  | [], _, _, h, _ => h
  | t :: ts, k, acc, h, g => by
    show PyData.strOk (textFrom (k + 1) (acc ++ (if k > 0 then ", " else "" : String) ++ t) ts) = true
    refine ok_from ts _ _ (strOk_app (strOk_app h ?_) (g t List.mem_cons_self)) fun u hu => g u (List.mem_cons_of_mem _ hu)
    split <;> decide +kernel
theorem shownAll_ok {w e : Nat} {ds : List PyData} (h : ∀ d ∈ ds, OkF w e d) : ∀ t ∈ PyData.shownAll ds, PyData.strOk t = true := fun t ht => by
  rw [shownAll_eq_map] at ht
  obtain ⟨d, hd, rfl⟩ := List.mem_map.mp ht
  exact (h d hd).ok
theorem okf_tup {w e : Nat} {ds : List PyData} (h : ∀ d ∈ ds, OkF w e d) : OkF ((w + 1) * ds.length) (e + 1) (.tuple ds) := by
  refine ⟨(fine_all fun d hd => (h d hd).f).tup, ?_⟩
  have e : (PyData.tuple ds).shown = tupleText (PyData.shownAll ds) := by simp only [PyData.shown]
  rw [e]
  unfold tupleText
  refine strOk_app (strOk_app (by decide +kernel) (ok_joinR (by decide +kernel) _ (shownAll_ok h))) ?_
  split <;> decide +kernel
theorem okf_lst {w e : Nat} {ds : List PyData} (h : ∀ d ∈ ds, OkF w e d) : OkF ((w + 1) * ds.length) (e + 1) (.list ds) := by
  refine ⟨(fine_all fun d hd => (h d hd).f).lst, ?_⟩
  have e : (PyData.list ds).shown = listText (PyData.shownAll ds) := by simp only [PyData.shown]
  rw [e]
  unfold listText
  exact strOk_app (ok_from _ _ _ (by decide +kernel) (shownAll_ok h)) (by decide +kernel)
theorem OkF.odd {K : PySem.W.Frag} {H : Hp} {v : V} {w e : Nat} {d : PyData} (f : OkF w e d) (h : Dp K H v d) (hw : w ≤ 300000) (he : e < 60) (hs : shortV (some d)) : OddV K H v (some d) d.shown := by
  obtain ⟨a, b, c, g⟩ := f.f.fits hw he
  exact OddV.of h a b c g f.ok hs
theorem okf_ints {l : List Int} (h : ∀ i ∈ l, -1 ≤ i ∧ i < 10 ^ 40) : ∀ d ∈ l.map PyData.int, OkF 140 0 d := fun d hd => by
  obtain ⟨i, hi, rfl⟩ := List.mem_map.mp hd
  exact okf_int (h i hi).1 (h i hi).2
theorem OddV.ints {K : PySem.W.Frag} {H : Hp} {q : Addr} {l : List Int} (h : SqT K H q (l.map V.int)) (hl : l.length ≤ 100) (hr : ∀ i ∈ l, -1 ≤ i ∧ i < 10 ^ 40) : OddV K H (.ref q) (some (rowD l)) (rowD l).shown :=
  (okf_tup (okf_ints hr)).odd (.tup h (.ints l)) (by rw [List.length_map]; omega) (by decide) (show (l.map PyData.int).length ≤ 100 by rw [List.length_map]; exact hl)
theorem inV_ints (m : Int) (ms : List Int) : inV (.int m) (ms.map V.int) = decide (m ∈ ms) := by
  unfold inV
  rw [Bool.eq_iff_iff, List.any_map]
  simp only [List.any_eq_true, Function.comp, eqV, beq_iff_eq, decide_eq_true_eq]
  constructor
  · rintro ⟨x, h, e⟩; rw [← e]; exact h
  · intro h; exact ⟨m, h, rfl⟩
/-! ## a row that may be odd, and the law's own look at it -/
/-! ## what is right comes back -/
section
variable {K : PySem.W.Frag} {C : Addr} {H : Hp} {v t u : V} {o : Option (Nat × List Job)} {q' r : Option PyData} {st : Str}
theorem dpa_int_eq {K : PySem.W.Frag} {H : Hp} : ∀ {xs : List V} {l : List Int}, DpAll K H xs (l.map PyData.int) → xs = l.map V.int
  | _, [], .nil => rfl
  | _, i :: l, .cons h t => by
    cases h.int_eq
    rw [dpa_int_eq t]; rfl
end
/-! ## one of two values, the rest once -/
end Ts
namespace Ts
open PySem PySem.Spec PyProof.Rows L2
/-! ## dict(xs) of a list of pairs of which each key is a tuple of ints and texts -/
def mergeT (kvs more : List (List L2.Key × V)) : List (List L2.Key × V) := more.foldl (fun acc kv => putK acc kv.1 kv.2) kvs
theorem length_mergeT : ∀ (more kvs : List (List L2.Key × V)), (mergeT kvs more).length ≤ kvs.length + more.length
  | [], kvs => by show kvs.length ≤ kvs.length + 0; omega
  | p :: r, kvs => by
    have h1 := length_mergeT r (putK kvs p.1 p.2)
    have h2 := length_putK kvs p.1 p.2
    show (mergeT (putK kvs p.1 p.2) r).length ≤ _
    rw [List.length_cons]
    omega
/-- a key's tuple, where it lies, its value -/
abbrev KP (K : PySem.W.Frag) (H : Hp) (p : Addr) (q : List L2.Key × Addr × V) : Prop := SqT K H p [.ref q.2.1, q.2.2] ∧ H q.2.1 = some (.tup (q.1.map kV))
theorem kt_merge {H : Hp} : ∀ {qs : List (List L2.Key × Addr × V)} {prs : List (List L2.Key × Addr × Value)} {kvs : List (List L2.Key × V)} {xs : List (List L2.Key × Addr × Value)},
    Paired (fun (q : List L2.Key × Addr × V) (r : List L2.Key × Addr × Value) => q.1 = r.1 ∧ q.2.1 = r.2.1 ∧ H q.2.1 = some (.tup (q.1.map kV)) ∧ RelV q.2.2 r.2.2) qs prs → L2.KT H kvs xs →
    L2.KT H (mergeT kvs (qs.map fun q => (q.1, q.2.2))) (storedAllH xs prs)
  | _, _, _, _, .nil, h => h
  | _, _, _, _, .cons (a := q) (b := r) h t, g => by
    obtain ⟨q1, q2, q3⟩ := q
    obtain ⟨r1, r2, r3⟩ := r
    obtain ⟨e1, e2, e3, e4⟩ := h
    dsimp only at e1 e2 e3 e4
    subst e1 e2
    show L2.KT H (mergeT (putK _ q1 q3) _) (storedAllH (storedH _ q1 q2 r3) _)
    exact kt_merge t (L2.KT.put g q1 e3 e4)
section
variable {X : Cx}
theorem pairsT_of {pins : List (Addr × Obj)} {σ : L2.St} {H : Hp} {s : Shared} (I : Inv X pins σ H s) : ∀ {ps : List Addr} {qs : List (List L2.Key × Addr × V)}, Paired (KP X.K H) ps qs →
    ∃ prs : List (List L2.Key × Addr × Value), Paired (fun (q : List L2.Key × Addr × V) (r : List L2.Key × Addr × Value) => q.1 = r.1 ∧ q.2.1 = r.2.1 ∧ H q.2.1 = some (.tup (q.1.map kV)) ∧ RelV q.2.2 r.2.2) qs prs ∧ prs.length = ps.length ∧
      ∀ (j : Nat) (r : List L2.Key × Addr × Value), prs[j]? = some r → ∃ b : Addr, ps[j]? = some b ∧ IsTup s.heap b #[.ref r.2.1, r.2.2] ∧ H r.2.1 = some (.tup (r.1.map kV))
  | _, _, .nil => ⟨[], .nil, rfl, fun j q e => by simp at e⟩
  | _, _, .cons (a := p) (b := q) h t => by
    obtain ⟨prs, r, hl, hp⟩ := pairsT_of I t
    obtain ⟨its, rv, ht, _⟩ := I.tuple h.1
    obtain ⟨u, y, ei, ru, ry⟩ := vals2 rv
    subst ei
    cases ru
    refine ⟨(q.1, q.2.1, y) :: prs, .cons ⟨rfl, rfl, h.2, ry⟩ r, by rw [List.length_cons, List.length_cons, hl], fun j z e => ?_⟩
    cases j with
    | zero =>
      have e' : (q.1, q.2.1, y) = z := Option.some.inj e
      subst e'
      exact ⟨p, rfl, ht, h.2⟩
    | succ j =>
      obtain ⟨b, e1, e2, e3⟩ := hp j z (by simpa using e)
      exact ⟨b, by simpa using e1, e2, e3⟩
theorem call_dictTP (hcalm : X.calm = true) (hu : X.A.in1.in1.units < cLine) : CallR X (.type "dict") (fun xs H Q => ∃ (a : Addr) (ps : List Addr) (qs : List (List L2.Key × Addr × V)), xs = [.ref a] ∧ SqL X.K H a (ps.map V.ref) ∧ Paired (KP X.K H) ps qs ∧
    ∀ p, H p = none → Q (.ref p) (upd H p (.dT (mergeT [] (qs.map fun q => (q.1, q.2.2)))))) := by
  intro pins s σ H xs us Q I r q
  obtain ⟨a, ps, qs, ex, hq, hp, q⟩ := q
  subst ex
  obtain ⟨u, eu, rx⟩ := vals1 r
  subst eu
  cases rx
  obtain ⟨its, rv, pl, hz⟩ := I.list hq
  have ei := refs_at rv
  subst ei
  rw [List.length_map] at hz
  obtain ⟨prs, rel, hl, hpr⟩ := pairsT_of I hp
  have lq : prs.length = qs.length := rel.length.symm
  have hm : (s.heap.objs.size == sysModules) = false := beq_eq_false_iff_ne.mpr (Nat.ne_of_gt I.big)
  refine PySem.call_dict_pairsH (knd := tupleKind (mixKind X.prog X.w)) (ps := prs) (PairArg.list a (ps.map Value.ref).toArray (fun j => ps.getD j 0) (prs.map fun r => (.ref r.2.1, r.2.2))) (I.ok.hd hcalm) hu ⟨pl, by simp [hl], fun j k v e => ?_⟩ ⟨by rw [List.length_map], fun i key v h => ?_⟩ (fun h' hk x hx => ?_) (by rw [List.length_map, hl]; exact hz) fun h' tk hd' k => ?_
  · rw [List.getElem?_map] at e
    cases er : prs[j]? with
    | none => rw [er] at e; cases e
    | some r =>
      rw [er] at e
      have e' : ((Value.ref r.2.1, r.2.2) : Value × Value) = (k, v) := Option.some.inj e
      cases e'
      obtain ⟨b, e1, e2, _⟩ := hpr j r er
      have eb : ps.getD j 0 = b := by rw [List.getD_eq_getElem?_getD, e1]; rfl
      dsimp only
      rw [eb]
      exact ⟨by simp [e1], .inl e2⟩
  · have e : (prs.map fun r => ((.ref r.2.1, r.2.2) : Value × Value))[i]? = some (key, v) := h
    rw [List.getElem?_map] at e
    cases er : prs[i]? with
    | none => rw [er] at e; cases e
    | some r =>
      rw [er] at e
      have e' : ((Value.ref r.2.1, r.2.2) : Value × Value) = (key, v) := Option.some.inj e
      cases e'
      exact ⟨r.1, r.2.1, rfl, rfl⟩
  · obtain ⟨j, hj⟩ := List.mem_iff_getElem?.mp hx
    obtain ⟨b, _, _, e3⟩ := hpr j x hj
    obtain ⟨o, its, n, h1, h2⟩ := key_of I.hok e3
    exact ⟨o, its, n, hk _ _ (Nat.ne_of_lt (Heap.lt_size h1)) (fun z => nomatch z) h1, h2⟩
  · have hlen : (mergeT [] (qs.map fun q => (q.1, q.2.2))).length ≤ sizeLine := by
      refine Nat.le_trans (length_mergeT _ []) ?_
      rw [List.length_nil, Nat.zero_add, List.length_map, ← lq, hl]
      exact hz
    have kt : L2.KT H (mergeT [] (qs.map fun q => (q.1, q.2.2))) (storedAllH [] prs) := kt_merge rel .nil
    obtain ⟨o, es, ep, h1, h2, h3, h4, _, h5⟩ := hd'
    have hn : H s.heap.objs.size = none := I.hok.fresh (Nat.le_refl _)
    refine ⟨.ref s.heap.objs.size, upd H s.heap.objs.size (.dT (mergeT [] (qs.map fun q => (q.1, q.2.2)))), I.laid (t' := tk) (fun b u e => k b u (fun z => nomatch z) e) (Nat.le_refl _) (show ObjOk X.prog X.w _ _ _ (.dT (mergeT [] (qs.map fun q => (q.1, q.2.2)))) from ⟨hlen, hm, storedAllH [] prs, kt.keeps fun b ys e => ?_, o, es, ep, h1, h2, h3, h4, h5⟩), rfl, q _ hn⟩
    rw [upd_ne (fun z => by rw [z, hn] at e; cases e)]
    exact e
end
/-! ## d != {}, d of tuple keys -/
section
variable {prog : Program} {w : World} {A : Around} {E : Value → Shared → Prop} {s : Shared}
theorem samePairs_empty {nm : String} {a b : Addr} {oa ob : Obj} {es : Array DictEntry} {ep ep' : Nat} {Q : Bool → Shared → Prop} (ha : (a == sysModules) = false) (hb : (b == sysModules) = false)
    (hoa : s.heap.get? a = some oa) (hda : oa.data = .dict es ep) (hob : s.heap.get? b = some ob) (hdb : ob.data = .dict #[] ep') (h : Q (es.size == 0) s) :
    wpAny (model prog w) A (Builtin.Dict.samePairs nm a b) Q E s := by
  unfold Builtin.Dict.samePairs Builtin.Dict.showsAll
  rw [if_neg (show ¬ (a == sysModules) = true by rw [ha]; exact Bool.false_ne_true), if_neg (show ¬ (b == sysModules) = true by rw [hb]; exact Bool.false_ne_true)]
  refine wpAny_bind (wpAny_pure (wpAny_bind (wpAny_pure ?_)))
  refine wpAny_bind (wpAny_dictEntries hoa hda ?_)
  dsimp only
  refine wpAny_bind (wpAny_dictEntries hob hdb ?_)
  by_cases hsz : es.size = 0
  · have h' : Q true s := by simpa [hsz] using h
    rw [if_neg (by rw [hsz]; simp)]
    refine wpAny_bind (wpAny_dictEpoch hoa hda ?_)
    refine wpAny_bind ?_
    rw [Std.Legacy.Range.forIn_eq_forIn_range']
    simp only [Std.Legacy.Range.size, Nat.sub_zero, Nat.add_sub_cancel, Nat.div_one]
    rw [hsz]
    show wpAny _ _ (pure _) _ _ s
    exact wpAny_pure (wpAny_pure h')
  · rw [if_pos (by simpa using hsz)]
    have hbf : (es.size == 0) = false := by simpa using hsz
    rw [hbf] at h
    exact wpAny_bind (wpAny_rule (wpAny_pure h))
theorem ne_empty {a b : Addr} {oa ob : Obj} {es : Array DictEntry} {ep ep' : Nat} {Q : Value → Shared → Prop} (ha : (a == sysModules) = false) (hb : (b == sysModules) = false)
    (hoa : s.heap.get? a = some oa) (hca : oa.ExactDict) (hda : oa.data = .dict es ep) (hob : s.heap.get? b = some ob) (hcb : ob.ExactDict) (hdb : ob.data = .dict #[] ep') (hu : A.units < cLine) (h : Q (.bool (!(es.size == 0))) s) :
    wpAny (model prog w) A (compareOp .NotEq (.ref a) (.ref b)) Q E s := by
  have ta : s.TypeIs (.ref a) "dict" := ⟨oa, hoa, hca.1⟩
  have tb : s.TypeIs (.ref b) "dict" := ⟨ob, hob, hcb.1⟩
  refine wpAny_richCompare_same_room (op := .NotEq) ta tb PySem.F.slot_dict_ne (wpAny_call_entry PySem.F.slot_dict_ne ta PySem.F.entry_dict_ne ?_ (PySem.F.args_dict_ne_2 _ _)) hu
  show wpAny _ _ (Builtin.Dict.dictSlotArgs "__ne__" ⟨[.ref a, .ref b], []⟩ >>= _) _ _ s
  refine wpAny_bind ?_
  unfold Builtin.Dict.dictSlotArgs
  refine wpAny_bind (wpAny_notOrdered_dict ta ?_)
  show wpAny _ _ (pure (Value.ref a, Value.ref b)) _ _ s
  refine wpAny_pure ?_
  refine wpAny_bind (wpAny_isInstance (T := "dict") tb PySem.F.sub_dict_dict ?_)
  simp only [Bool.not_true, Bool.false_eq_true, if_false]
  refine wpAny_bind (wpAny_pure (wpAny_bind (wpAny_pure ?_)))
  refine wpAny_bind (samePairs_empty ha hb hoa hda hob hdb ?_)
  refine wpAny_pure ⟨_, rfl, ?_, ?_⟩
  · exact fun x => nomatch x
  · simpa using h
end
/-- a dict of tuple keys, and an empty one -/
def rNeE : R2 := fun x y H Q => ∃ (a b : Addr) (kvs : List (List L2.Key × V)), x = .ref a ∧ y = .ref b ∧ H a = some (.dT kvs) ∧ H b = some (.dT []) ∧ Q (.bl (!kvs.isEmpty)) H
theorem op_neE {X : Cx} (hu : X.A.units < cLine) : OpR X (compareOp .NotEq) rNeE := by
  intro pins s σ H x y v u Q I rx ry h
  obtain ⟨a, b, kvs, rfl, rfl, ha, hb, q⟩ := h
  cases rx
  cases ry
  obtain ⟨z1, y1, xs, r1, o1, es, ep, h1, h2, h3, h4, h5⟩ := (show ObjOk X.prog X.w H s.heap a (.dT kvs) from I.hok a _ ha)
  obtain ⟨z2, y2, xs2, r2, o2, es2, ep2, k1, k2, k3, k4, k5⟩ := (show ObjOk X.prog X.w H s.heap b (.dT []) from I.hok b _ hb)
  cases r2
  have e2 : es2 = #[] := by
    obtain ⟨l⟩ := es2
    simp at k4
    rw [k4]
  subst e2
  have ls : es.size = kvs.length := by
    have := congrArg List.length h4
    rw [List.length_map, ← r1.length] at this
    simpa using this
  refine ne_empty y1 y2 h1 h2 h3 k1 k2 k3 hu ⟨.bl _, H, I, rfl, ?_⟩
  have eb : (!(es.size == 0)) = !kvs.isEmpty := by
    rw [ls]
    cases kvs <;> rfl
  rw [eb]
  exact q
end Ts
namespace Ts
open PySem PySem.Spec PyProof.Rows L2
/-! ## the law's own look at standings: near, more, the sets of hands -/
def nearB (e p : Nat) (m t : Int) : Bool := decide ((t * (e : Int) - m * (p : Int)).natAbs < p)
def spNearJ (K : PySem.W.Frag) : Sp := fun vs H Q _ => ∃ (v : V) (e p : Nat) (m t : Int), vs = [v, .int m, .int t] ∧ Dp K H v (partD e p) ∧ GoodPart 16 e p ∧ Q (.bl (nearB e p m t)) H
def plusR (r s : List Int) : List Int := (List.range r.length).map fun k => r.getD k 0 + (if ((k : Int) ∈ s) then 1 else 0)
def spPlusJ (K : PySem.W.Frag) : Sp := fun vs H Q _ => ∃ (a g : Addr) (r s : List Int), vs = [.ref a, .ref g] ∧ SqT K H a (r.map V.int) ∧ SqT K H g (s.map V.int) ∧ r.length ≤ 6 ∧
  ∀ (p : Addr) (H' : Hp), H p = none → Same H H' → H' p = some (.tup ((plusR r s).map V.int)) → Q (.ref p) H'
def subsL : Nat → List (List Int)
  | 0 => [[]]
  | n + 1 => subsL n ++ (subsL n).map (· ++ [(n : Int)])
def setsL (n m : Nat) : List (List Int) := (subsL n).filter fun s => decide (s.length ≤ m)
def spSetsJ (K : PySem.W.Frag) : Sp := fun vs H Q _ => ∃ (n m : Nat), vs = [.int (n : Int), .int (m : Int)] ∧ n ≤ 6 ∧ m ≤ 1000 ∧
  ∀ (p : Addr) (ys : List V) (rows2 : List (List Int)) (H' : Hp), SrtO.Srtd HT.lexLt rows2 → SrtO.Stb HT.lexLt rows2 (setsL n m) → H p = none → Same H H' → H' p = some (.lst ys) → DpAll K H' ys (rows2.map rowD) → Q (.ref p) H'
theorem subsL_len : ∀ n, (subsL n).length = 2 ^ n
  | 0 => rfl
  | n + 1 => by rw [subsL, List.length_append, List.length_map, subsL_len n, Nat.pow_succ]; omega
theorem subsL_each : ∀ n, ∀ s ∈ subsL n, s.length ≤ n
  | 0, s, h => by rw [List.mem_singleton.mp h]; exact Nat.le_refl _
  | n + 1, s, h => by
    rcases List.mem_append.mp h with h | h
    · exact Nat.le_succ_of_le (subsL_each n s h)
    · obtain ⟨u, hu, rfl⟩ := List.mem_map.mp h
      rw [List.length_append]
      exact Nat.succ_le_succ (subsL_each n u hu)
theorem subsL_head : ∀ n, ∃ w, subsL n = [] :: w ∧ ∀ s ∈ w, 1 ≤ s.length
  | 0 => ⟨[], rfl, fun s h => by cases h⟩
  | n + 1 => by
    obtain ⟨w, e, h⟩ := subsL_head n
    refine ⟨w ++ (subsL n).map (· ++ [(n : Int)]), by rw [subsL, e]; rfl, fun s hs => ?_⟩
    rcases List.mem_append.mp hs with z | z
    · exact h s z
    · obtain ⟨u, hu, rfl⟩ := List.mem_map.mp z
      rw [List.length_append]
      exact Nat.le_add_left _ _
theorem sets_tail (n m : Nat) : ∀ s ∈ (setsL n m).tail, 1 ≤ s.length := by
  obtain ⟨w, e, h⟩ := subsL_head n
  unfold setsL
  rw [e]
  have hf : ([] :: w).filter (fun s : List Int => decide (s.length ≤ m)) = [] :: w.filter (fun s : List Int => decide (s.length ≤ m)) := by simp
  rw [hf]
  exact fun s hs => h s (List.mem_filter.mp hs).1
/-! ## rows that lie as tuples of their own -/
inductive RowT (H : Hp) : List V → List (List Int) → Prop
  | nil : RowT H [] []
  | cons {a : Addr} {r : List Int} {ys : List V} {rows : List (List Int)} (h : H a = some (.tup (r.map V.int))) (t : RowT H ys rows) : RowT H (.ref a :: ys) (r :: rows)
theorem RowT.mono {H H' : Hp} {ys : List V} {rows : List (List Int)} (h : RowT H ys rows) (s : Same H H') : RowT H' ys rows := by
  induction h with
  | nil => exact .nil
  | cons a _ ih => exact .cons (s _ _ a) ih
theorem RowT.append {H : Hp} {ys zs : List V} {rows more : List (List Int)} (h : RowT H ys rows) (g : RowT H zs more) : RowT H (ys ++ zs) (rows ++ more) := by
  induction h with
  | nil => exact g
  | cons a _ ih => exact .cons a ih
theorem RowT.snoc {H : Hp} {ys : List V} {rows : List (List Int)} {a : Addr} {r : List Int} (h : RowT H ys rows) (g : H a = some (.tup (r.map V.int))) : RowT H (ys ++ [.ref a]) (rows ++ [r]) := h.append (.cons g .nil)
theorem RowT.length {H : Hp} {ys : List V} {rows : List (List Int)} (h : RowT H ys rows) : ys.length = rows.length := by
  induction h with
  | nil => rfl
  | cons a _ ih => rw [List.length_cons, List.length_cons, ih]
theorem RowT.get {H : Hp} {ys : List V} {rows : List (List Int)} (h : RowT H ys rows) : ∀ {i : Nat} {y : V}, ys[i]? = some y → ∃ (a : Addr) (r : List Int), y = .ref a ∧ rows[i]? = some r ∧ H a = some (.tup (r.map V.int)) := by
  induction h with
  | nil => intro i y e; simp at e
  | cons a _ ih =>
    intro i y e
    cases i with
    | zero => cases e; exact ⟨_, _, rfl, rfl, a⟩
    | succ i => exact ih (by simpa using e)
theorem RowT.dp {K : PySem.W.Frag} {H : Hp} {ys : List V} {rows : List (List Int)} (h : RowT H ys rows) : DpAll K H ys (rows.map rowD) := by
  induction h with
  | nil => exact .nil
  | cons a _ ih => exact .cons (.tup (SqT.of a) (.ints _)) ih
/-! ## every standing at a moment -/
def spAllAtJ (K : PySem.W.Frag) : Sp := fun vs H Q _ => ∃ (p q : Addr) (n : Nat) (js : List Job) (t : Int), vs = [.ref p, .int t] ∧ SqT K H p [.int (n : Int), .ref q] ∧ Dp K H (.ref q) (jobsD js) ∧ Good 16 js ∧ js.length ≤ 6 ∧
  ∀ (r : Addr) (ys : List V) (H' : Hp), H r = none → Same H H' → H' r = some (.lst ys) → RowT H' ys (rowsR js t) → Q (.ref r) H'
theorem near_kept {e p : Nat} {t : Int} (hp : 0 < p) : [lowI e p t, lowI e p t + 1].filter (fun m => nearB e p m t) = keptL e p t := by
  have hh := high_eq (e := e) (t := t) hp
  have k0 := kept_ends (e := e) (p := p) (t := t) (m := lowI e p t) hp
  have k1 := kept_ends (e := e) (p := p) (t := t) (m := lowI e p t + 1) hp
  have nb : ∀ m, nearB e p m t = decide (t * (e : Int) - m * (p : Int) < p ∧ m * (p : Int) - t * (e : Int) < p) := fun m => by
    unfold nearB
    refine decide_eq_decide.mpr ?_
    generalize t * (e : Int) = x
    generalize m * (p : Int) = y
    omega
  have b0 : nearB e p (lowI e p t) t = true := by
    rw [nb]
    refine decide_eq_true (k0.mpr ?_)
    by_cases c : t * (e : Int) % (p : Int) = 0
    · rw [if_pos c] at hh; omega
    · rw [if_neg c] at hh; omega
  unfold keptL
  by_cases c : t * (e : Int) % (p : Int) = 0
  · rw [if_pos c] at hh ⊢
    have b1 : nearB e p (lowI e p t + 1) t = false := by
      rw [nb]
      exact decide_eq_false fun z => by have := k1.mp z; omega
    simp [b0, b1]
  · rw [if_neg c] at hh ⊢
    have b1 : nearB e p (lowI e p t + 1) t = true := by
      rw [nb]
      exact decide_eq_true (k1.mpr (by omega))
    simp [b0, b1]
end Ts
namespace Ts
open PySem PySem.Spec PyProof.Rows L2
/-! ## the law's own living standings, as dicts with the rows as keys -/
def keyR (r : List Int) : List L2.Key := r.map Sum.inl
theorem keyR_V (r : List Int) : (keyR r).map kV = r.map V.int := by
  unfold keyR
  rw [List.map_map]; rfl
theorem keyR_inj : ∀ {r s : List Int}, keyR r = keyR s → r = s
  | [], [], _ => rfl
  | a :: r, b :: s, h => by
    have h' : (Sum.inl a : L2.Key) :: keyR r = Sum.inl b :: keyR s := h
    obtain ⟨h1, h2⟩ := List.cons.inj h'
    rw [Sum.inl.inj h1, keyR_inj h2]
  | [], _ :: _, h => by cases h
  | _ :: _, [], h => by cases h
def rowsK (rows : List (List Int)) : List (List L2.Key × V) := rows.map fun r => (keyR r, .bl true)
theorem put_fresh {rows : List (List Int)} {r : List Int} (h : r ∉ rows) : putK (rowsK rows) (keyR r) (.bl true) = rowsK (rows ++ [r]) := by
  unfold putK
  rw [if_neg]
  · unfold rowsK; rw [List.map_append]; rfl
  · intro z
    obtain ⟨kv, hk, e⟩ := List.any_eq_true.mp z
    obtain ⟨s, hs, rfl⟩ := List.mem_map.mp hk
    have e' : keyR s = keyR r := of_decide_eq_true e
    exact h (keyR_inj e' ▸ hs)
theorem merge_rows : ∀ {more rows : List (List Int)}, (rows ++ more).Nodup → mergeT (rowsK rows) (rowsK more) = rowsK (rows ++ more)
  | [], rows, _ => by rw [List.append_nil]; rfl
  | r :: more, rows, h => by
    show mergeT (putK (rowsK rows) (keyR r) (.bl true)) (rowsK more) = _
    have hr : r ∉ rows := fun z => by
      have := (List.nodup_append.mp h).2.2
      exact this r z r List.mem_cons_self rfl
    rw [put_fresh hr, merge_rows (by rw [List.append_assoc]; exact h), List.append_assoc]; rfl
theorem val_rows (rows : List (List Int)) (r : List Int) : (valV (rowsK rows) (keyR r)).isSome = decide (r ∈ rows) := by
  induction rows with
  | nil => rfl
  | cons s rows ih =>
    by_cases e : s = r
    · subst e
      have : valV (rowsK (s :: rows)) (keyR s) = some (.bl true) := valV_pos (p := (keyR s, .bl true)) rfl
      rw [this]; simp
    · have hne : keyR s ≠ keyR r := fun z => e (keyR_inj z)
      have : valV (rowsK (s :: rows)) (keyR r) = valV (rowsK rows) (keyR r) := by
        unfold valV rowsK
        rw [List.map_cons, List.find?_cons_of_neg (by simpa using hne)]
      rw [this, ih]
      have e2 : ¬ r = s := fun z => e z.symm
      simp [e2]
theorem rows_nodup (js : List Job) (t : Int) : (rowsR js t).Nodup := by
  have h := rows_up js t
  refine List.Pairwise.imp (fun {a b} hab e => ?_) h
  subst e
  have irr : ∀ l : List Int, HT.lexLt l l = false := fun l => by
    induction l with
    | nil => rfl
    | cons x l ih => simp [HT.lexLt, ih]
  rw [irr] at hab
  cases hab
/-- what lives k ticks before the end of a round, by the law's own walk -/
def livR (js : List Job) (sets : List (List Int)) : Nat → List (List Int)
  | 0 => rowsR js (spanN js : Int)
  | k + 1 => (rowsR js ((spanN js : Int) - ((k + 1 : Nat) : Int))).filter fun r => sets.any fun s => decide (plusR r s ∈ livR js sets k)
/-- from the first moment of the round -/
def livT (js : List Job) (sets : List (List Int)) : List (List (List Int)) := (List.range (spanN js + 1)).map fun m => livR js sets (spanN js - m)
def livJ (js : List Job) (sets : List (List Int)) : List (List (List Int)) := if livR js sets (spanN js) = [] then List.replicate (spanN js + 1) [] else livT js sets
/-- the dict at a holds the rows -/
def LivAt (H : Hp) (v : V) (rows : List (List Int)) : Prop := ∃ a, v = .ref a ∧ H a = some (.dT (rowsK rows))
inductive LivAll (H : Hp) : List V → List (List (List Int)) → Prop
  | nil : LivAll H [] []
  | cons {v : V} {rows : List (List Int)} {vs : List V} {rs : List (List (List Int))} (h : LivAt H v rows) (t : LivAll H vs rs) : LivAll H (v :: vs) (rows :: rs)
theorem LivAll.mono {H H' : Hp} {vs : List V} {rs : List (List (List Int))} (h : LivAll H vs rs) (s : Same H H') : LivAll H' vs rs := by
  induction h with
  | nil => exact .nil
  | cons a _ ih => obtain ⟨x, e, g⟩ := a; exact .cons ⟨x, e, s _ _ g⟩ ih
/-- what lives, moment by moment, by the law's own walk; rows2: the sets in their order -/
def spLivingJ (K : PySem.W.Frag) : Sp := fun vs H Q _ => ∃ (p q : Addr) (n : Nat) (js : List Job), vs = [.ref p] ∧ SqT K H p [.int (n : Int), .ref q] ∧ Dp K H (.ref q) (jobsD js) ∧ Good 16 js ∧ Div12 js ∧ 0 < js.length ∧ js.length ≤ 6 ∧ n ≤ 1000 ∧
  ∀ (r : Addr) (ys : List V) (rows2 : List (List Int)) (H' : Hp), SrtO.Srtd HT.lexLt rows2 → SrtO.Stb HT.lexLt rows2 (setsL js.length n) → H r = none → Same H H' → H' r = some (.lst ys) → LivAll H' ys (livJ js rows2) → Q (.ref r) H'
/-- pairs (row, True) of a list -/
inductive PairT (H : Hp) : List Addr → List (List L2.Key × Addr × V) → List (List Int) → Prop
  | nil : PairT H [] [] []
  | cons {p a : Addr} {r : List Int} {ps : List Addr} {qs : List (List L2.Key × Addr × V)} {rows : List (List Int)} (h : H p = some (.tup [.ref a, .bl true])) (g : H a = some (.tup (r.map V.int))) (t : PairT H ps qs rows) : PairT H (p :: ps) ((keyR r, a, .bl true) :: qs) (r :: rows)
theorem PairT.mono {H H' : Hp} {ps : List Addr} {qs : List (List L2.Key × Addr × V)} {rows : List (List Int)} (h : PairT H ps qs rows) (s : Same H H') : PairT H' ps qs rows := by
  induction h with
  | nil => exact .nil
  | cons a b _ ih => exact .cons (s _ _ a) (s _ _ b) ih
theorem PairT.snoc {H : Hp} {ps : List Addr} {qs : List (List L2.Key × Addr × V)} {rows : List (List Int)} {p a : Addr} {r : List Int} (h : PairT H ps qs rows) (e : H p = some (.tup [.ref a, .bl true])) (g : H a = some (.tup (r.map V.int))) :
    PairT H (ps ++ [p]) (qs ++ [(keyR r, a, .bl true)]) (rows ++ [r]) := by
  induction h with
  | nil => exact .cons e g .nil
  | cons a b _ ih => exact .cons a b ih
theorem PairT.pairs {K : PySem.W.Frag} {H : Hp} {ps : List Addr} {qs : List (List L2.Key × Addr × V)} {rows : List (List Int)} (h : PairT H ps qs rows) : Paired (KP K H) ps qs ∧ qs.map (fun q => (q.1, q.2.2)) = rowsK rows ∧ ps.length = rows.length := by
  induction h with
  | nil => exact ⟨.nil, rfl, rfl⟩
  | cons a b _ ih =>
    obtain ⟨h1, h2, h3⟩ := ih
    refine ⟨.cons ⟨SqT.of a, by rw [b]; dsimp only; rw [keyR_V]⟩ h1, ?_, by rw [List.length_cons, List.length_cons, h3]⟩
    rw [List.map_cons, h2]; rfl
theorem tupS_row (r : List Int) : TupS (rowD r) := .tup fun d hd => by
  obtain ⟨i, _, rfl⟩ := List.mem_map.mp hd
  exact .int i
theorem tupS_rows (rows : List (List Int)) : ∀ d ∈ rows.map rowD, TupS d := fun d hd => by
  obtain ⟨r, _, rfl⟩ := List.mem_map.mp hd
  exact tupS_row r
theorem LivAll.but {H H' : Hp} {L : Addr} {us vs : List V} {rs : List (List (List Int))} (h : LivAll H vs rs) (e : H L = some (.lst us)) (b : But L H H') : LivAll H' vs rs := by
  induction h with
  | nil => exact .nil
  | cons a _ ih =>
    obtain ⟨x, hx, g⟩ := a
    exact .cons ⟨x, hx, b _ _ (fun z => by rw [z, e] at g; cases g) g⟩ ih
/-- which rows live k ticks before the end, row by row -/
def goB (js : List Job) (sets : List (List Int)) (k : Nat) (r : List Int) : Bool := sets.any fun s => decide (plusR r s ∈ livR js sets k)
theorem filter_any {α : Type} (f : α → Bool) : ∀ l : List α, (!(l.filter f).isEmpty) = l.any f
  | [] => rfl
  | x :: l => by
    cases h : f x with
    | true => rw [List.filter_cons_of_pos h, List.any_cons, h]; rfl
    | false => rw [List.filter_cons_of_neg (by rw [h]; decide), List.any_cons, h, filter_any f l]; rfl
theorem livR_succ (js : List Job) (sets : List (List Int)) (k : Nat) : livR js sets (k + 1) = (rowsR js ((spanN js : Int) - ((k + 1 : Nat) : Int))).filter (goB js sets k) := rfl
theorem shaped_rowsL (rows : List (List Int)) : SeqAt.shaped (.list (rows.map rowD)) = true := shaped_rows rows
theorem eqv_rowsL (rows : List (List Int)) : (PyData.list (rows.map rowD)).eqv (.list []) = rows.isEmpty := by cases rows <;> rfl
theorem LivAll.head {H : Hp} {vs : List V} {rs : List (List (List Int))} {rows : List (List Int)} (h : LivAll H vs rs) (e : rs[0]? = some rows) : ∃ a, vs[0]? = some (.ref a) ∧ H a = some (.dT (rowsK rows)) := by
  cases h with
  | nil => cases e
  | cons a t => obtain ⟨x, rfl, g⟩ := a; cases e; exact ⟨x, rfl, g⟩
theorem LivAll.length {H : Hp} {vs : List V} {rs : List (List (List Int))} (h : LivAll H vs rs) : vs.length = rs.length := by
  induction h with
  | nil => rfl
  | cons a _ ih => rw [List.length_cons, List.length_cons, ih]
theorem LivAll.snoc {H : Hp} {vs : List V} {rs : List (List (List Int))} {v : V} {rows : List (List Int)} (h : LivAll H vs rs) (g : LivAt H v rows) : LivAll H (vs ++ [v]) (rs ++ [rows]) := by
  induction h with
  | nil => exact .cons g .nil
  | cons a _ ih => exact .cons a ih
end Ts
namespace Ts
/-! ## crews as rows of truths, the lowest first -/
def numB : List Bool → Nat
  | [] => 0
  | b :: bs => b.toNat + 2 * numB bs
theorem numB_app : ∀ (xs ys : List Bool), numB (xs ++ ys) = numB xs + 2 ^ xs.length * numB ys
  | [], ys => by simp [numB]
  | x :: xs, ys => by
    show x.toNat + 2 * numB (xs ++ ys) = x.toNat + 2 * numB xs + 2 ^ (xs.length + 1) * numB ys
    rw [numB_app xs ys, Nat.pow_succ, Nat.mul_add, Nat.mul_comm (2 ^ xs.length) 2, Nat.mul_assoc]; omega
theorem numB_snoc (xs : List Bool) (b : Bool) : numB (xs ++ [b]) = numB xs + 2 ^ xs.length * b.toNat := by
  rw [numB_app]; simp [numB]
theorem numB_lt : ∀ bs : List Bool, numB bs < 2 ^ bs.length
  | [] => by decide
  | b :: bs => by
    have := numB_lt bs
    show b.toNat + 2 * numB bs < 2 ^ (bs.length + 1)
    have hb : b.toNat ≤ 1 := Bool.toNat_le b
    rw [Nat.pow_succ]; omega
theorem numB_bit : ∀ (bs : List Bool) (i : Nat), (numB bs).testBit i = bs.getD i false
  | [], i => by simp [numB]
  | b :: bs, 0 => by
    show (b.toNat + 2 * numB bs).testBit 0 = b
    rw [Nat.testBit_zero]
    cases b <;> simp <;> omega
  | b :: bs, i + 1 => by
    show (b.toNat + 2 * numB bs).testBit (i + 1) = bs.getD i false
    rw [Nat.testBit_succ, ← numB_bit bs i]
    congr 1
    cases b <;> simp <;> omega
/-- every number below is such a row -/
def bitsN (n a : Nat) : List Bool := (List.range n).map a.testBit
theorem bitsN_len (n a : Nat) : (bitsN n a).length = n := by simp [bitsN]
theorem bitsN_num {n a : Nat} (h : a < 2 ^ n) : numB (bitsN n a) = a := by
  refine Nat.eq_of_testBit_eq fun i => ?_
  rw [numB_bit, List.getD_eq_getElem?_getD]
  unfold bitsN
  rw [List.getElem?_map]
  by_cases hi : i < n
  · rw [List.getElem?_range hi]; rfl
  · rw [List.getElem?_eq_none (by rw [List.length_range]; omega)]
    exact (Nat.testBit_lt_two_pow (Nat.lt_of_lt_of_le h (Nat.pow_le_pow_right (by decide) (by omega)))).symm
theorem numB_mid (xs ys : List Bool) : numB (xs ++ true :: ys) = numB (xs ++ false :: ys) + 2 ^ xs.length := by
  rw [numB_app, numB_app]
  show numB xs + 2 ^ xs.length * (1 + 2 * numB ys) = numB xs + 2 ^ xs.length * (0 + 2 * numB ys) + 2 ^ xs.length
  rw [Nat.mul_add, Nat.mul_add]; omega
/-! ### crews as numbers -/
theorem crew_posL {α : Type} (p : α → Bool) : ∀ (l : List α) (i : Nat), crewN (posL p l i) = 2 ^ i * numB (l.map p)
  | [], i => by simp [posL, crewN, numB]
  | x :: r, i => by
    have ih := crew_posL p r (i + 1)
    unfold posL
    rw [List.map_cons]
    cases hp : p x with
    | true =>
      rw [if_pos rfl]
      show 2 ^ i + crewN (posL p r (i + 1)) = 2 ^ i * (1 + 2 * numB (r.map p))
      rw [ih, Nat.pow_succ, Nat.mul_add, Nat.mul_one, Nat.mul_assoc]
    | false =>
      rw [if_neg (by decide), ih]
      show _ = 2 ^ i * (0 + 2 * numB (r.map p))
      rw [Nat.pow_succ, Nat.zero_add, Nat.mul_assoc]
theorem crew_posL0 {α : Type} (p : α → Bool) (l : List α) : crewN (posL p l 0) = numB (l.map p) := by rw [crew_posL]; simp
/-! ### sets of numbers as a number -/
theorem crew_lt : ∀ (ms : List Nat) (b : Nat), ms.Pairwise (· < ·) → (∀ m ∈ ms, m < b) → crewN ms < 2 ^ b := by
  intro ms
  induction hn : ms.length generalizing ms with
  | zero =>
    intro b _ _
    rw [List.length_eq_zero_iff.mp hn]
    exact Nat.two_pow_pos b
  | succ n ih =>
    intro b hp hb
    have hne : ms ≠ [] := fun e => by rw [e] at hn; cases hn
    obtain ⟨ys, y, rfl⟩ : ∃ ys y, ms = ys ++ [y] := ⟨ms.dropLast, ms.getLast hne, (List.dropLast_concat_getLast hne).symm⟩
    have hl : ys.length = n := by simpa using hn
    obtain ⟨p1, _, p3⟩ := List.pairwise_append.mp hp
    have h1 := ih ys hl y p1 fun m hm => p3 m hm y (by simp)
    have hy := hb y (by simp)
    rw [crew_snoc]
    have : 2 ^ (y + 1) ≤ 2 ^ b := Nat.pow_le_pow_right (by decide) hy
    rw [Nat.pow_succ] at this
    omega
theorem crew_bit : ∀ (ms : List Nat) (a : Nat), ms.Pairwise (· < ·) → (crewN ms).testBit a = decide (a ∈ ms) := by
  intro ms
  induction hn : ms.length generalizing ms with
  | zero =>
    intro a _
    rw [List.length_eq_zero_iff.mp hn]
    simp [crewN]
  | succ n ih =>
    intro a hp
    have hne : ms ≠ [] := fun e => by rw [e] at hn; cases hn
    obtain ⟨ys, y, rfl⟩ : ∃ ys y, ms = ys ++ [y] := ⟨ms.dropLast, ms.getLast hne, (List.dropLast_concat_getLast hne).symm⟩
    have hl : ys.length = n := by simpa using hn
    obtain ⟨p1, _, p3⟩ := List.pairwise_append.mp hp
    have lo : ∀ m ∈ ys, m < y := fun m hm => p3 m hm y (by simp)
    have h1 := crew_lt ys y p1 lo
    have h2 := ih ys hl a p1
    rw [crew_snoc, Nat.add_comm]
    rcases Nat.lt_trichotomy a y with c | c | c
    · rw [Nat.testBit_two_pow_add_gt c, h2]
      exact decide_eq_decide.mpr (by simp; omega)
    · subst c
      rw [Nat.testBit_two_pow_add_eq, Nat.testBit_lt_two_pow h1]
      simp
    · have h3 : 2 ^ y + crewN ys < 2 ^ a := by
        have : 2 ^ (y + 1) ≤ 2 ^ a := Nat.pow_le_pow_right (by decide) c
        rw [Nat.pow_succ] at this
        omega
      rw [Nat.testBit_lt_two_pow h3]
      refine (decide_eq_false fun z => ?_).symm
      rcases List.mem_append.mp z with z | z
      · have := lo a z; omega
      · have : a = y := by simpa using z
        omega
theorem subs_lt (n : Nat) {w : List Nat} (h : w ∈ subsN n) {p : Nat} (hp : p ∈ w) : p < 2 ^ n := (subs_in n w h).2 p hp
theorem subs_asc : ∀ n, ∀ w ∈ subsN n, w.Pairwise (· < ·)
  | 0, w, h => by
    have e : w = [0] := by simpa [subsN] using h
    subst e
    simp
  | n + 1, w, h => by
    rcases List.mem_append.mp h with h | h
    · exact subs_asc n w h
    · obtain ⟨u, hu, rfl⟩ := List.mem_map.mp h
      have ih := subs_asc n u hu
      refine List.pairwise_append.mpr ⟨ih, List.pairwise_map.mpr (ih.imp fun {a b} z => by omega), fun a ha b hb => ?_⟩
      obtain ⟨c, _, rfl⟩ := List.mem_map.mp hb
      have := subs_lt n hu ha
      omega
theorem subs_getD (n c : Nat) (h : c < 2 ^ n) : (subsN n).getD c [] ∈ subsN n := by
  have hl : c < (subsN n).length := by rw [subs_len]; exact h
  rw [List.getD_eq_getElem?_getD, List.getElem?_eq_getElem hl]
  exact List.getElem_mem hl
theorem subs_low {n c : Nat} (h : c < 2 ^ n) : (subsN (n + 1)).getD c [] = (subsN n).getD c [] := by
  rw [subsN, List.getD_eq_getElem?_getD, List.getElem?_append_left (by rw [subs_len]; exact h), ← List.getD_eq_getElem?_getD]
theorem subs_high {n c : Nat} (h : c < 2 ^ n) : (subsN (n + 1)).getD (c + 2 ^ n) [] = (subsN n).getD c [] ++ ((subsN n).getD c []).map (· + 2 ^ n) := by
  have hl : c < (subsN n).length := by rw [subs_len]; exact h
  rw [subsN, List.getD_eq_getElem?_getD, List.getElem?_append_right (by rw [subs_len]; omega), List.getElem?_map, subs_len, Nat.add_sub_cancel, List.getD_eq_getElem?_getD, List.getElem?_eq_getElem hl]; rfl
/-- one crew within another -/
def subB : List Bool → List Bool → Bool
  | [], [] => true
  | c :: cs, p :: ps => (!p || c) && subB cs ps
  | _, _ => false
theorem subB_len : ∀ {cs ps : List Bool}, subB cs ps = true → cs.length = ps.length
  | [], [], _ => rfl
  | c :: cs, p :: ps, h => by
    have := subB_len (Bool.and_eq_true_iff.mp h).2
    simp [this]
  | [], _ :: _, h => by cases h
  | _ :: _, [], h => by cases h
theorem subB_snoc : ∀ {cs ps : List Bool} (c p : Bool), cs.length = ps.length → subB (cs ++ [c]) (ps ++ [p]) = (subB cs ps && (!p || c))
  | [], [], c, p, _ => by simp [subB]
  | d :: cs, q :: ps, c, p, h => by
    show ((!q || d) && subB (cs ++ [c]) (ps ++ [p])) = (((!q || d) && subB cs ps) && (!p || c))
    rw [subB_snoc c p (by simpa using h), Bool.and_assoc]
  | [], _ :: _, _, _, h => by cases h
  | _ :: _, [], _, _, h => by cases h
theorem snoc_of {α : Type} {n : Nat} {l : List α} (h : l.length = n + 1) : ∃ ys y, l = ys ++ [y] ∧ ys.length = n := by
  have hne : l ≠ [] := fun e => by rw [e] at h; cases h
  exact ⟨l.dropLast, l.getLast hne, (List.dropLast_concat_getLast hne).symm, by rw [List.length_dropLast, h]; rfl⟩
theorem subs_mem : ∀ (n : Nat) (cs ps : List Bool), cs.length = n → ps.length = n → (numB ps ∈ (subsN n).getD (numB cs) [] ↔ subB cs ps = true)
  | 0, cs, ps, h1, h2 => by
    rw [List.length_eq_zero_iff.mp h1, List.length_eq_zero_iff.mp h2]
    simp [numB, subsN, subB]
  | n + 1, cs, ps, h1, h2 => by
    obtain ⟨cs, c, rfl, k1⟩ := snoc_of h1
    obtain ⟨ps, p, rfl, k2⟩ := snoc_of h2
    have ih := subs_mem n cs ps k1 k2
    have lc : numB cs < 2 ^ n := by have := numB_lt cs; rwa [k1] at this
    have lp : numB ps < 2 ^ n := by have := numB_lt ps; rwa [k2] at this
    have inn := subs_getD n _ lc
    rw [subB_snoc c p (k1.trans k2.symm), numB_snoc, numB_snoc, k1, k2]
    cases c with
    | false =>
      rw [show numB cs + 2 ^ n * false.toNat = numB cs by simp, subs_low lc]
      cases p with
      | false => rw [show numB ps + 2 ^ n * false.toNat = numB ps by simp, ih]; simp
      | true =>
        rw [show numB ps + 2 ^ n * true.toNat = numB ps + 2 ^ n by simp]
        constructor
        · intro z
          have := subs_lt n inn z
          omega
        · intro z; simp at z
    | true =>
      rw [show numB cs + 2 ^ n * true.toNat = numB cs + 2 ^ n by simp, subs_high lc, List.mem_append]
      cases p with
      | false =>
        rw [show numB ps + 2 ^ n * false.toNat = numB ps by simp, ih]
        constructor
        · rintro (z | z)
          · rw [z]; rfl
          · obtain ⟨u, _, e⟩ := List.mem_map.mp z
            omega
        · intro z; left; simpa using z
      | true =>
        rw [show numB ps + 2 ^ n * true.toNat = numB ps + 2 ^ n by simp]
        constructor
        · rintro (z | z)
          · have := subs_lt n inn z
            omega
          · obtain ⟨u, hu, e⟩ := List.mem_map.mp z
            have : u = numB ps := by omega
            rw [this] at hu
            rw [ih.mp hu]; rfl
        · intro z
          right
          exact List.mem_map.mpr ⟨_, ih.mpr (by simpa using z), rfl⟩
theorem poss_bit {n : Nat} {cs ps : List Bool} (h1 : cs.length = n) (h2 : ps.length = n) : (possN n (numB cs)).testBit (numB ps) = subB cs ps := by
  have lc : numB cs < 2 ^ n := by have := numB_lt cs; rwa [h1] at this
  unfold possN
  rw [crew_bit _ _ (subs_asc n _ (subs_getD n _ lc))]
  have := subs_mem n cs ps h1 h2
  cases e : subB cs ps with
  | true => exact decide_eq_true (this.mpr e)
  | false => exact decide_eq_false fun z => by rw [this.mp z] at e; cases e
theorem poss_big {n : Nat} {c a : Nat} (h : c < 2 ^ n) (ha : (possN n c).testBit a = true) : a < 2 ^ n := by
  unfold possN at ha
  rw [crew_bit _ _ (subs_asc n _ (subs_getD n _ h))] at ha
  exact subs_lt n (subs_getD n _ h) (of_decide_eq_true ha)
theorem full_mem : ∀ (n a : Nat), a ∈ (subsN n).getD (2 ^ n - 1) [] ↔ a < 2 ^ n
  | 0, a => by simp [subsN]; 
  | n + 1, a => by
    have h0 := Nat.two_pow_pos n
    have e : 2 ^ (n + 1) - 1 = (2 ^ n - 1) + 2 ^ n := by rw [Nat.pow_succ]; omega
    have ih := full_mem n
    rw [e, subs_high (by omega), List.mem_append, ih, Nat.pow_succ]
    constructor
    · rintro (z | z)
      · omega
      · obtain ⟨u, hu, rfl⟩ := List.mem_map.mp z
        have := (ih u).mp hu
        omega
    · intro z
      by_cases c : a < 2 ^ n
      · exact .inl c
      · exact .inr (List.mem_map.mpr ⟨a - 2 ^ n, (ih _).mpr (by omega), by omega⟩)
theorem na_bit (n i a : Nat) : (notAheadN n i).testBit a = (decide (a < 2 ^ n) && !a.testBit i) := by
  have h0 := Nat.two_pow_pos n
  unfold notAheadN
  have asc := (subs_asc n _ (subs_getD n (2 ^ n - 1) (by omega))).filter (p := fun a => a / 2 ^ i % 2 == 0)
  rw [crew_bit _ _ asc]
  have : a ∈ ((subsN n).getD (2 ^ n - 1) []).filter (fun a => a / 2 ^ i % 2 == 0) ↔ (a < 2 ^ n ∧ a / 2 ^ i % 2 = 0) := by
    rw [List.mem_filter, full_mem]; simp
  rw [Nat.testBit_eq_decide_div_mod_eq]
  by_cases c : a < 2 ^ n
  · rw [decide_eq_true c]
    by_cases d : a / 2 ^ i % 2 = 0
    · rw [decide_eq_true (this.mpr ⟨c, d⟩)]
      simp [d]
    · rw [decide_eq_false fun z => d (this.mp z).2]
      have : a / 2 ^ i % 2 = 1 := by omega
      simp [this]
  · rw [decide_eq_false c, decide_eq_false fun z => c (this.mp z).1]; rfl
/-! ### one work taken back -/
theorem sub_bit {a i : Nat} (h : 2 ^ i ≤ a) : (a - 2 ^ i).testBit i = !a.testBit i := by
  have e : a = 2 ^ i + (a - 2 ^ i) := by omega
  have := Nat.testBit_two_pow_add_eq (a - 2 ^ i) i
  rw [← e] at this
  rw [this]; simp
theorem step_bit {n grown given idle : Nat} {xs ys : List Bool} {v : Bool} (hn : xs.length + 1 + ys.length = n) :
    (stepN grown xs.length (notAheadN n xs.length) given idle).testBit (numB (xs ++ v :: ys)) =
      if grown.testBit xs.length = true then (given.testBit (numB (xs ++ v :: ys)) || (v && idle.testBit (numB (xs ++ false :: ys)))) else (idle.testBit (numB (xs ++ v :: ys)) || (!v && given.testBit (numB (xs ++ true :: ys)))) := by
  have bitv : ∀ b : Bool, (numB (xs ++ b :: ys)).testBit xs.length = b := fun b => by
    rw [numB_bit, List.getD_eq_getElem?_getD, List.getElem?_append_right (Nat.le_refl _), Nat.sub_self]; rfl
  have big : ∀ b : Bool, numB (xs ++ b :: ys) < 2 ^ n := fun b => by
    have := numB_lt (xs ++ b :: ys)
    rw [List.length_append, List.length_cons] at this
    rwa [show xs.length + (ys.length + 1) = n by omega] at this
  have mid := numB_mid xs ys
  have bf := bitv false
  have gb : grown.testBit xs.length = decide (grown / 2 ^ xs.length % 2 = 1) := Nat.testBit_eq_decide_div_mod_eq
  unfold stepN
  rw [gb]
  by_cases g : grown / 2 ^ xs.length % 2 = 1
  · rw [if_pos g, if_pos (decide_eq_true g), Nat.testBit_or, Nat.testBit_mul_two_pow, Nat.testBit_and, na_bit]
    congr 1
    cases v with
    | true =>
      rw [mid, Nat.add_sub_cancel, decide_eq_true (show 2 ^ xs.length ≤ numB (xs ++ false :: ys) + 2 ^ xs.length by omega), decide_eq_true (big false), bf]
      simp
    | false =>
      by_cases c : 2 ^ xs.length ≤ numB (xs ++ false :: ys)
      · rw [sub_bit c, bf]
        simp
      · rw [decide_eq_false c]; rfl
  · rw [if_neg g, if_neg (fun z => g (of_decide_eq_true z)), Nat.testBit_or, Nat.testBit_and, Nat.testBit_div_two_pow, na_bit, decide_eq_true (big v), bitv v]
    congr 1
    cases v with
    | true => simp
    | false => rw [← mid]; simp
/-! ### all works taken back -/
/-- b: who is ahead behind the tick; a: ahead of it; s: who has a hand; g: whose lower number grows -/
def relB : List Bool → List Bool → List Bool → List Bool → Prop
  | g :: gs, a :: as, s :: ss, b :: bs => b.toNat + g.toNat = a.toNat + s.toNat ∧ relB gs as ss bs
  | [], [], [], [] => True
  | _, _, _, _ => False
def cntB (ss : List Bool) : Nat := (ss.filter id).length
theorem cntB_cons (s : Bool) (ss : List Bool) : cntB (s :: ss) = s.toNat + cntB ss := by
  unfold cntB
  cases s <;> simp <;> omega
theorem relB_len : ∀ {gs as ss bs : List Bool}, relB gs as ss bs → as.length = gs.length ∧ ss.length = gs.length ∧ bs.length = gs.length
  | [], [], [], [], _ => ⟨rfl, rfl, rfl⟩
  | g :: gs, a :: as, s :: ss, b :: bs, h => by
    obtain ⟨h1, h2, h3⟩ := relB_len h.2
    exact ⟨by simp [h1], by simp [h2], by simp [h3]⟩
  | [], [], [], _ :: _, h => h.elim
  | [], [], _ :: _, _, h => h.elim
  | [], _ :: _, _, _, h => h.elim
  | _ :: _, [], _, _, h => h.elim
  | _ :: _, _ :: _, [], _, h => h.elim
  | _ :: _, _ :: _, _ :: _, [], h => h.elim
theorem pair_at (found : List Nat) (f : Nat → Nat → Nat) (f0 : f 0 0 = 0) (k : Nat) : ((pairN found).map fun q => f q.2 q.1).getD k 0 = f (if k = 0 then 0 else found.getD (k - 1) 0) (found.getD k 0) := by
  unfold pairN
  rw [List.getD_eq_getElem?_getD, List.getElem?_map]
  by_cases h : k < found.length + 1
  · have e1 : (found ++ [0])[k]? = some (found.getD k 0) := by
      by_cases c : k < found.length
      · rw [List.getElem?_append_left c, List.getD_eq_getElem?_getD, List.getElem?_eq_getElem c]; rfl
      · have : k = found.length := by omega
        subst this
        rw [List.getElem?_append_right (Nat.le_refl _), List.getD_eq_getElem?_getD, List.getElem?_eq_none (Nat.le_refl _), Nat.sub_self]; rfl
    have e2 : (0 :: found)[k]? = some (if k = 0 then 0 else found.getD (k - 1) 0) := by
      cases k with
      | zero => rfl
      | succ k =>
        rw [if_neg (by omega), List.getElem?_cons_succ, Nat.add_sub_cancel, List.getD_eq_getElem?_getD, List.getElem?_eq_getElem (show k < found.length by omega)]; rfl
    have e3 : ((found ++ [0]).zip (0 :: found))[k]? = some (found.getD k 0, if k = 0 then 0 else found.getD (k - 1) 0) := List.getElem?_zip_eq_some.mpr ⟨e1, e2⟩
    rw [e3]; rfl
  · have e3 : ((found ++ [0]).zip (0 :: found))[k]? = none := List.getElem?_eq_none (by rw [List.length_zip, List.length_append, List.length_cons, List.length_cons]; simp; omega)
    rw [e3]
    show 0 = _
    rw [if_neg (by omega), List.getD_eq_getElem?_getD, List.getD_eq_getElem?_getD, List.getElem?_eq_none (by omega), List.getElem?_eq_none (by omega)]
    exact f0.symm
theorem step_zero (grown i o : Nat) : stepN grown i o 0 0 = 0 := by
  unfold stepN
  split <;> simp
theorem found_bit (n grown : Nat) : ∀ (ys gs xs : List Bool) (found : List Nat) (k : Nat), xs.length + ys.length = n → gs.length = ys.length → (∀ i, i < gs.length → grown.testBit (xs.length + i) = gs.getD i false) →
    (((foundN grown ((List.range' xs.length ys.length).map (notAheadN n)) xs.length found).getD k 0).testBit (numB (xs ++ ys)) = true ↔
      ∃ ss bs, relB gs ys ss bs ∧ cntB ss ≤ k ∧ (found.getD (k - cntB ss) 0).testBit (numB (xs ++ bs)) = true) := by
  intro ys
  induction ys with
  | nil =>
    intro gs xs found k hn hg hb
    have : gs = [] := List.length_eq_zero_iff.mp hg
    subst this
    show (found.getD k 0).testBit (numB (xs ++ [])) = true ↔ _
    constructor
    · intro z; exact ⟨[], [], trivial, Nat.zero_le _, z⟩
    · rintro ⟨ss, bs, r, c, z⟩
      obtain ⟨_, h2, h3⟩ := relB_len r
      have e1 : ss = [] := List.length_eq_zero_iff.mp h2
      have e2 : bs = [] := List.length_eq_zero_iff.mp h3
      subst e1 e2
      exact z
  | cons v ys ih =>
    intro gs xs found k hn hg hb
    cases gs with
    | nil => cases hg
    | cons g gs =>
      have hg0 : grown.testBit xs.length = g := by have := hb 0 (by simp); simpa using this
      have hr : (List.range' xs.length (v :: ys).length).map (notAheadN n) = notAheadN n xs.length :: (List.range' (xs ++ [v]).length ys.length).map (notAheadN n) := by
        rw [List.length_cons, List.range'_succ, List.map_cons, List.length_append]; rfl
      rw [hr]
      show ((foundN grown _ (xs.length + 1) ((pairN found).map fun q => stepN grown xs.length (notAheadN n xs.length) q.2 q.1)).getD k 0).testBit (numB (xs ++ v :: ys)) = true ↔ _
      have h := ih gs (xs ++ [v]) ((pairN found).map fun q => stepN grown xs.length (notAheadN n xs.length) q.2 q.1) k (by rw [List.length_append]; simp at hn ⊢; omega) (by simpa using hg) (fun i hi => by
        have := hb (i + 1) (by simpa using hi)
        rw [List.length_append]
        rw [show xs.length + [v].length + i = xs.length + (i + 1) by simp; omega, this]; rfl)
      rw [List.length_append, show xs.length + [v].length = xs.length + 1 from rfl] at h
      rw [show xs ++ v :: ys = xs ++ [v] ++ ys by simp, List.length_append, show xs.length + [v].length = xs.length + 1 from rfl, h]
      have st : ∀ (bs : List Bool) (j : Nat), bs.length = ys.length → ((((pairN found).map fun q => stepN grown xs.length (notAheadN n xs.length) q.2 q.1).getD j 0).testBit (numB (xs ++ [v] ++ bs)) = true ↔
          ∃ s b : Bool, b.toNat + g.toNat = v.toNat + s.toNat ∧ s.toNat ≤ j ∧ (found.getD (j - s.toNat) 0).testBit (numB (xs ++ b :: bs)) = true) := fun bs j hl => by
        rw [pair_at found (fun x y => stepN grown xs.length (notAheadN n xs.length) x y) (step_zero _ _ _) j, show xs ++ [v] ++ bs = xs ++ v :: bs by simp, step_bit (by simp at hn; omega), hg0]
        cases g with
        | true =>
          rw [if_pos rfl]
          simp only [Bool.or_eq_true, Bool.and_eq_true]
          constructor
          · rintro (z | ⟨rfl, z⟩)
            · by_cases j0 : j = 0
              · rw [if_pos j0] at z; simp at z
              · rw [if_neg j0] at z
                exact ⟨true, v, rfl, by simp; omega, z⟩
            · exact ⟨false, false, by simp, by simp, by simpa using z⟩
          · rintro ⟨s, b, e, c, z⟩
            cases s with
            | true =>
              have : b = v := by cases b <;> cases v <;> simp at e <;> rfl
              subst this
              left
              rw [if_neg (by simp at c; omega)]
              exact z
            | false =>
              have : b = false ∧ v = true := by cases b <;> cases v <;> simp at e <;> exact ⟨rfl, rfl⟩
              obtain ⟨rfl, rfl⟩ := this
              right
              exact ⟨rfl, by simpa using z⟩
        | false =>
          rw [if_neg (by decide)]
          simp only [Bool.or_eq_true, Bool.and_eq_true]
          constructor
          · rintro (z | ⟨hv, z⟩)
            · exact ⟨false, v, rfl, by simp, by simpa using z⟩
            · have : v = false := by simpa using hv
              subst this
              by_cases j0 : j = 0
              · rw [if_pos j0] at z; simp at z
              · rw [if_neg j0] at z
                exact ⟨true, true, rfl, by simp; omega, z⟩
          · rintro ⟨s, b, e, c, z⟩
            cases s with
            | true =>
              have : b = true ∧ v = false := by cases b <;> cases v <;> simp at e <;> exact ⟨rfl, rfl⟩
              obtain ⟨rfl, rfl⟩ := this
              right
              refine ⟨rfl, ?_⟩
              rw [if_neg (by simp at c; omega)]
              exact z
            | false =>
              have : b = v := by cases b <;> cases v <;> simp at e <;> rfl
              subst this
              left
              simpa using z
      constructor
      · rintro ⟨ss, bs, r, c, z⟩
        have hl : bs.length = ys.length := by rw [(relB_len r).2.2, ← (relB_len r).1]
        obtain ⟨s, b, e, c2, z2⟩ := (st bs _ hl).mp z
        refine ⟨s :: ss, b :: bs, ⟨e, r⟩, by rw [cntB_cons]; omega, ?_⟩
        rw [cntB_cons, show k - (s.toNat + cntB ss) = k - cntB ss - s.toNat by omega]
        exact z2
      · rintro ⟨ss, bs, r, c, z⟩
        cases ss with
        | nil => exact r.elim
        | cons s ss =>
          cases bs with
          | nil => exact r.elim
          | cons b bs =>
            rw [cntB_cons] at c z
            have hl : bs.length = ys.length := by rw [(relB_len r.2).2.2, ← (relB_len r.2).1]
            refine ⟨ss, bs, r.2, by omega, (st bs _ hl).mpr ⟨s, b, r.1, by omega, ?_⟩⟩
            rw [show k - cntB ss - s.toNat = k - (s.toNat + cntB ss) by omega]
            exact z
theorem or_bit (a : Nat) : ∀ (l : List Nat) (x : Nat), (l.foldl (· ||| ·) x).testBit a = (x.testBit a || l.any fun y => y.testBit a)
  | [], x => by simp
  | y :: l, x => by rw [List.foldl_cons, or_bit a l, Nat.testBit_or, List.any_cons, Bool.or_assoc]
/-- who can have been ahead: some hands, no more than most, lead to one of those behind -/
theorem before_bit {n after grown most : Nat} {as gs : List Bool} (ha : as.length = n) (hg : gs.length = n) (hb : grown = numB gs) :
    (beforeN after grown ((List.range n).map (notAheadN n)) most).testBit (numB as) = true ↔ ∃ ss bs, relB gs as ss bs ∧ cntB ss ≤ most ∧ after.testBit (numB bs) = true := by
  have key : ∀ k, ((foundN grown ((List.range n).map (notAheadN n)) 0 [after]).getD k 0).testBit (numB as) = true ↔ ∃ ss bs, relB gs as ss bs ∧ cntB ss = k ∧ after.testBit (numB bs) = true := fun k => by
    have h := found_bit n grown as gs [] [after] k (by simpa using ha) (hg.trans ha.symm) (fun i hi => by rw [hb, numB_bit]; simp)
    rw [ha] at h
    have er : List.range' ([] : List Bool).length n = List.range n := by rw [List.range_eq_range']; rfl
    rw [er] at h
    show _ ↔ _
    rw [show ([] : List Bool) ++ as = as from rfl, show ([] : List Bool).length = 0 from rfl] at h
    rw [h]
    constructor
    · rintro ⟨ss, bs, r, c, z⟩
      refine ⟨ss, bs, r, ?_, ?_⟩
      · by_cases e : k - cntB ss = 0
        · omega
        · rw [List.getD_eq_getElem?_getD, List.getElem?_eq_none (by simp; omega)] at z
          simp at z
      · by_cases e : k - cntB ss = 0
        · rw [e] at z; exact z
        · rw [List.getD_eq_getElem?_getD, List.getElem?_eq_none (by simp; omega)] at z
          simp at z
    · rintro ⟨ss, bs, r, c, z⟩
      refine ⟨ss, bs, r, by omega, ?_⟩
      rw [c, Nat.sub_self]; exact z
  unfold beforeN
  rw [or_bit]
  simp only [Nat.zero_testBit, Bool.false_or, List.any_eq_true]
  constructor
  · rintro ⟨x, hx, z⟩
    obtain ⟨k, hk, e⟩ := List.getElem_of_mem hx
    rw [List.length_take] at hk
    have : ((foundN grown ((List.range n).map (notAheadN n)) 0 [after]).getD k 0) = x := by
      rw [List.getElem_take] at e
      rw [List.getD_eq_getElem?_getD, List.getElem?_eq_getElem (by omega), e]; rfl
    rw [← this] at z
    obtain ⟨ss, bs, r, c, q⟩ := (key k).mp z
    exact ⟨ss, bs, r, by omega, q⟩
  · rintro ⟨ss, bs, r, c, q⟩
    have z := (key (cntB ss)).mpr ⟨ss, bs, r, rfl, q⟩
    have hl : cntB ss < (foundN grown ((List.range n).map (notAheadN n)) 0 [after]).length := by
      refine Classical.byContradiction fun no => ?_
      rw [List.getD_eq_getElem?_getD, List.getElem?_eq_none (by omega)] at z
      simp at z
    rw [List.getD_eq_getElem?_getD, List.getElem?_eq_getElem hl] at z
    refine ⟨_, ?_, z⟩
    exact List.mem_take_iff_getElem.mpr ⟨cntB ss, by omega, rfl⟩
end Ts
namespace Ts
open PySem PySem.Spec PyProof.Rows L2
/-! ## standings as rows of truths: who is ahead -/
def rowB : List Job → Int → List Bool → List Int
  | j :: js, t, b :: bs => (lowI j.2.1 j.2.2 t + (b.toNat : Int)) :: rowB js t bs
  | _, _, _ => []
/-- who has two numbers -/
def dbB (js : List Job) (t : Int) : List Bool := js.map fun j => decide (lowI j.2.1 j.2.2 t < highI j.2.1 j.2.2 t)
/-- whose lower number grows -/
def grB (js : List Job) (t : Int) : List Bool := js.map fun j => decide (lowI j.2.1 j.2.2 t < lowI j.2.1 j.2.2 (t + 1))
theorem rowB_len : ∀ {js : List Job} {t : Int} {bs : List Bool}, bs.length = js.length → (rowB js t bs).length = js.length
  | [], _, [], _ => rfl
  | j :: js, t, b :: bs, h => by
    show (rowB js t bs).length + 1 = js.length + 1
    rw [rowB_len (by simpa using h)]
  | [], _, _ :: _, h => by cases h
  | _ :: _, _, [], h => by cases h
theorem kept_bit {e p : Nat} {t x : Int} (hp : 0 < p) : x ∈ keptL e p t ↔ ∃ b : Bool, (!b || decide (lowI e p t < highI e p t)) = true ∧ x = lowI e p t + (b.toNat : Int) := by
  have hh := high_eq (e := e) (t := t) hp
  unfold keptL
  by_cases c : t * (e : Int) % (p : Int) = 0
  · rw [if_pos c] at hh ⊢
    rw [hh]
    constructor
    · intro z
      exact ⟨false, rfl, by simpa using z⟩
    · rintro ⟨b, h, rfl⟩
      cases b with
      | false => simp
      | true => simp at h
  · rw [if_neg c] at hh ⊢
    rw [hh]
    constructor
    · intro z
      have : x = lowI e p t ∨ x = lowI e p t + 1 := by simpa using z
      rcases this with z | z
      · exact ⟨false, rfl, by simpa using z⟩
      · exact ⟨true, by simp; omega, by simpa using z⟩
    · rintro ⟨b, h, rfl⟩
      cases b <;> simp
def inP : List Int → List (List Int) → Prop
  | x :: s, o :: os => x ∈ o ∧ inP s os
  | [], [] => True
  | _, _ => False
theorem picks_in : ∀ (os : List (List Int)) (rows : List (List Int)) (r : List Int), r ∈ os.foldl growR rows ↔ ∃ r0 s, r0 ∈ rows ∧ r = r0 ++ s ∧ inP s os
  | [], rows, r => by
    constructor
    · intro h; exact ⟨r, [], h, by simp, trivial⟩
    · rintro ⟨r0, s, h, rfl, g⟩
      cases s with
      | nil => simpa using h
      | cons _ _ => exact g.elim
  | o :: os, rows, r => by
    rw [List.foldl_cons, picks_in os]
    constructor
    · rintro ⟨r0, s, h, rfl, g⟩
      unfold growR at h
      obtain ⟨r1, h1, h2⟩ := List.mem_flatMap.mp h
      obtain ⟨m, hm, rfl⟩ := List.mem_map.mp h2
      exact ⟨r1, m :: s, h1, by simp, hm, g⟩
    · rintro ⟨r0, s, h, rfl, g⟩
      cases s with
      | nil => exact g.elim
      | cons m s =>
        refine ⟨r0 ++ [m], s, ?_, by simp, g.2⟩
        unfold growR
        exact List.mem_flatMap.mpr ⟨r0, h, List.mem_map.mpr ⟨m, g.1, rfl⟩⟩
theorem opts_in (t : Int) : ∀ (js : List Job) (r : List Int), (∀ j ∈ js, 0 < j.2.2) → (inP r (optsR js t) ↔ ∃ bs, subB (dbB js t) bs = true ∧ r = rowB js t bs)
  | [], r, _ => by
    cases r with
    | nil => exact ⟨fun _ => ⟨[], rfl, rfl⟩, fun _ => trivial⟩
    | cons x r =>
      refine ⟨fun h => h.elim, ?_⟩
      rintro ⟨bs, _, h⟩
      cases h
  | j :: js, r, hp => by
    have ih := fun r => opts_in t js r fun j hj => hp j (List.mem_cons_of_mem _ hj)
    have hj := hp j List.mem_cons_self
    cases r with
    | nil =>
      refine ⟨fun h => h.elim, ?_⟩
      rintro ⟨bs, h1, h⟩
      cases bs with
      | nil => cases h1
      | cons b bs => cases h
    | cons x r =>
      show (x ∈ keptL j.2.1 j.2.2 t ∧ inP r (optsR js t)) ↔ _
      rw [kept_bit hj, ih r]
      constructor
      · rintro ⟨⟨b, h1, rfl⟩, bs, h2, rfl⟩
        exact ⟨b :: bs, Bool.and_eq_true_iff.mpr ⟨h1, h2⟩, rfl⟩
      · rintro ⟨bs, h1, h⟩
        cases bs with
        | nil => cases h1
        | cons b bs =>
          obtain ⟨h2, h3⟩ := Bool.and_eq_true_iff.mp h1
          have h' : x :: r = (lowI j.2.1 j.2.2 t + (b.toNat : Int)) :: rowB js t bs := h
          obtain ⟨e1, e2⟩ := List.cons.inj h'
          exact ⟨⟨b, h2, e1⟩, bs, h3, e2⟩
theorem good_pos {js : List Job} (G : Good 16 js) : ∀ j ∈ js, 0 < j.2.2 := fun j hj => by
  obtain ⟨h1, h2, _⟩ := G.part j hj
  omega
theorem rows_bits {js : List Job} {t : Int} {r : List Int} (G : Good 16 js) : r ∈ rowsR js t ↔ ∃ bs, subB (dbB js t) bs = true ∧ r = rowB js t bs := by
  unfold rowsR picksR
  rw [picks_in, ← opts_in t js r (good_pos G)]
  constructor
  · rintro ⟨r0, s, h, rfl, g⟩
    have : r0 = [] := by simpa using h
    subst this
    simpa using g
  · intro g
    exact ⟨[], r, by simp, rfl, g⟩
theorem dbB_len (js : List Job) (t : Int) : (dbB js t).length = js.length := List.length_map _
theorem grB_len (js : List Job) (t : Int) : (grB js t).length = js.length := List.length_map _
theorem doub_B (js : List Job) (t : Nat) : doubN js t = numB (dbB js (t : Int)) := crew_posL0 _ _
theorem grow_B (js : List Job) (t : Nat) : growN js t = numB (grB js (t : Int)) := by
  unfold growN grownL
  rw [crew_posL0]
  congr 1
  unfold lowsR grB
  rw [List.zip_map', List.map_map]
  rfl
/-! ## hands as rows of truths -/
def addB : List Int → List Bool → List Int
  | x :: r, s :: ss => (x + (s.toNat : Int)) :: addB r ss
  | _, _ => []
def sB (n : Nat) (s : List Int) : List Bool := (List.range n).map fun k : Nat => decide ((k : Int) ∈ s)
theorem sB_len (n : Nat) (s : List Int) : (sB n s).length = n := by simp [sB]
theorem addB_get : ∀ (r : List Int) (ss : List Bool), r.length = ss.length → (addB r ss).length = r.length ∧ ∀ k, k < r.length → (addB r ss).getD k 0 = r.getD k 0 + ((ss.getD k false).toNat : Int)
  | [], [], _ => ⟨rfl, fun k h => by simp at h⟩
  | x :: r, s :: ss, h => by
    obtain ⟨h1, h2⟩ := addB_get r ss (by simpa using h)
    refine ⟨by show (addB r ss).length + 1 = r.length + 1; rw [h1], fun k hk => ?_⟩
    cases k with
    | zero => rfl
    | succ k => exact h2 k (by simpa using hk)
  | [], _ :: _, h => by cases h
  | _ :: _, [], h => by cases h
theorem plus_B (r s : List Int) : plusR r s = addB r (sB r.length s) := by
  obtain ⟨h1, h2⟩ := addB_get r (sB r.length s) (sB_len _ _).symm
  refine List.ext_getElem (by rw [h1]; simp [plusR]) fun k g1 g2 => ?_
  have hk : k < r.length := by rw [h1] at g2; exact g2
  have := h2 k hk
  rw [List.getD_eq_getElem?_getD, List.getElem?_eq_getElem g2] at this
  show _ = _
  rw [show (addB r (sB r.length s))[k] = (some (addB r (sB r.length s))[k]).getD 0 from rfl, this]
  have e : (sB r.length s).getD k false = decide ((k : Int) ∈ s) := by
    rw [List.getD_eq_getElem?_getD]
    unfold sB
    rw [List.getElem?_map, List.getElem?_range hk]; rfl
  have e2 : (plusR r s)[k] = r.getD k 0 + (if ((k : Int) ∈ s) then 1 else 0) := by simp only [plusR, List.getElem_map, List.getElem_range]
  rw [e, e2]
  congr 1
  by_cases c : (k : Int) ∈ s
  · rw [if_pos c, decide_eq_true c]; rfl
  · rw [if_neg c, decide_eq_false c]; rfl
theorem low_grows {e p : Nat} {t : Int} (hp : 0 < p) (he : e ≤ p) : lowI e p (t + 1) = lowI e p t + ((decide (lowI e p t < lowI e p (t + 1))).toNat : Int) := by
  have hp : (0 : Int) < p := by omega
  have h1 : lowI e p t ≤ lowI e p (t + 1) := by
    unfold lowI
    refine Int.ediv_le_ediv hp ?_
    rw [Int.add_mul]; omega
  have h2 : lowI e p (t + 1) ≤ lowI e p t + 1 := by
    unfold lowI
    rw [← Int.add_ediv_of_dvd_right (Int.dvd_refl _) |> fun z => (show (t * (e : Int) + (p : Int)) / (p : Int) = t * (e : Int) / (p : Int) + 1 by rw [z, Int.ediv_self (by omega)])]
    refine Int.ediv_le_ediv hp ?_
    rw [Int.add_mul]; omega
  by_cases c : lowI e p t < lowI e p (t + 1)
  · rw [decide_eq_true c]; simp; omega
  · rw [decide_eq_false c]; simp; omega
theorem good_le {js : List Job} (G : Good 16 js) : ∀ j ∈ js, j.2.1 ≤ j.2.2 := fun j hj => by
  obtain ⟨h1, h2, _⟩ := G.part j hj
  omega
theorem add_rel {t : Int} : ∀ {js : List Job} {as ss bs : List Bool}, (∀ j ∈ js, 0 < j.2.2) → (∀ j ∈ js, j.2.1 ≤ j.2.2) → as.length = js.length → ss.length = js.length → bs.length = js.length →
    (addB (rowB js t as) ss = rowB js (t + 1) bs ↔ relB (grB js t) as ss bs)
  | [], [], [], [], _, _, _, _, _ => ⟨fun _ => trivial, fun _ => rfl⟩
  | j :: js, a :: as, s :: ss, b :: bs, hp, he, h1, h2, h3 => by
    have ih := add_rel (t := t) (js := js) (as := as) (ss := ss) (bs := bs) (fun j hj => hp j (List.mem_cons_of_mem _ hj)) (fun j hj => he j (List.mem_cons_of_mem _ hj)) (by simpa using h1) (by simpa using h2) (by simpa using h3)
    have lg := low_grows (t := t) (hp j List.mem_cons_self) (he j List.mem_cons_self)
    show (lowI j.2.1 j.2.2 t + (a.toNat : Int) + (s.toNat : Int)) :: addB (rowB js t as) ss = (lowI j.2.1 j.2.2 (t + 1) + (b.toNat : Int)) :: rowB js (t + 1) bs ↔ (b.toNat + (decide (lowI j.2.1 j.2.2 t < lowI j.2.1 j.2.2 (t + 1))).toNat = a.toNat + s.toNat ∧ relB (grB js t) as ss bs)
    rw [List.cons.injEq, ih]
    generalize (decide (lowI j.2.1 j.2.2 t < lowI j.2.1 j.2.2 (t + 1))).toNat = g at *
    refine and_congr_left fun _ => ?_
    omega
  | [], _ :: _, _, _, _, _, h, _, _ => by cases h
  | [], [], _ :: _, _, _, _, _, h, _ => by cases h
  | [], [], [], _ :: _, _, _, _, _, h => by cases h
  | _ :: _, [], _, _, _, _, h, _, _ => by cases h
  | _ :: _, _ :: _, [], _, _, _, _, h, _ => by cases h
  | _ :: _, _ :: _, _ :: _, [], _, _, _, _, h => by cases h
/-! ## the sets -/
def posI (ss : List Bool) : List Int := (posL id ss 0).map fun m : Nat => (m : Int)
theorem posI_snoc (ss : List Bool) (b : Bool) : posI (ss ++ [b]) = posI ss ++ if b = true then [(ss.length : Int)] else [] := by
  unfold posI
  rw [posL_snoc, List.map_append, Nat.zero_add]
  cases b <;> rfl
theorem posI_mem : ∀ (ss : List Bool) (k : Int), k ∈ posI ss ↔ ∃ i : Nat, k = (i : Int) ∧ i < ss.length ∧ ss.getD i false = true := by
  intro ss
  induction hn : ss.length generalizing ss with
  | zero =>
    intro k
    have : ss = [] := List.length_eq_zero_iff.mp hn
    subst this
    constructor
    · intro h; cases h
    · rintro ⟨i, _, h, _⟩; omega
  | succ n ih =>
    intro k
    obtain ⟨ss, b, rfl, hl⟩ := snoc_of hn
    have ih := ih ss hl k
    rw [posI_snoc, List.mem_append, ih, hl]
    have old : ∀ i, i < n → (ss ++ [b]).getD i false = ss.getD i false := fun i hi => by
      rw [List.getD_eq_getElem?_getD, List.getElem?_append_left (by omega), ← List.getD_eq_getElem?_getD]
    have new : (ss ++ [b]).getD n false = b := by
      rw [List.getD_eq_getElem?_getD, List.getElem?_append_right (by omega), hl, Nat.sub_self]; rfl
    constructor
    · rintro (⟨i, e, h, g⟩ | z)
      · exact ⟨i, e, by omega, by rw [old i h]; exact g⟩
      · cases b with
        | false => simp at z
        | true =>
          have : k = (n : Int) := by simpa using z
          exact ⟨n, this, by omega, new⟩
    · rintro ⟨i, e, h, g⟩
      by_cases c : i < n
      · exact .inl ⟨i, e, c, by rw [← old i c]; exact g⟩
      · have : i = n := by omega
        subst this
        rw [new] at g
        subst g
        exact .inr (by simp [e])
theorem sB_posI {n : Nat} {ss : List Bool} (h : ss.length = n) : sB n (posI ss) = ss := by
  refine List.ext_getElem (by rw [sB_len, h]) fun k h1 h2 => ?_
  have e0 : (sB n (posI ss))[k] = decide ((k : Int) ∈ posI ss) := by simp only [sB, List.getElem_map, List.getElem_range]
  rw [e0]
  have e : ss.getD k false = ss[k] := by rw [List.getD_eq_getElem?_getD, List.getElem?_eq_getElem h2]; rfl
  have : ((k : Int) ∈ posI ss) ↔ ss[k] = true := by
    rw [posI_mem, ← e]
    constructor
    · rintro ⟨i, e1, _, g⟩
      have : i = k := by omega
      rw [← this]; exact g
    · intro g; exact ⟨k, rfl, h2, g⟩
  cases c : ss[k] with
  | true => exact decide_eq_true (this.mpr c)
  | false => exact decide_eq_false fun z => by rw [this.mp z] at c; cases c
theorem posI_cnt : ∀ ss : List Bool, (posI ss).length = cntB ss := by
  have go : ∀ (ss : List Bool) (i : Nat), (posL id ss i).length = cntB ss := by
    intro ss
    induction ss with
    | nil => intro i; rfl
    | cons s ss ih =>
      intro i
      rw [cntB_cons]
      unfold posL
      cases s with
      | true =>
        show (i :: posL id ss (i + 1)).length = true.toNat + cntB ss
        rw [List.length_cons, ih]; simp; omega
      | false =>
        show (posL id ss (i + 1)).length = false.toNat + cntB ss
        rw [ih]; simp
  intro ss
  unfold posI
  rw [List.length_map, go]
theorem subsL_mem : ∀ (n : Nat) (s : List Int), s ∈ subsL n ↔ ∃ ss : List Bool, ss.length = n ∧ s = posI ss
  | 0, s => by
    constructor
    · intro h
      have e : s = [] := by simpa [subsL] using h
      exact ⟨[], rfl, e⟩
    · rintro ⟨ss, h, rfl⟩
      rw [List.length_eq_zero_iff.mp h]
      simp [subsL, posI, posL]
  | n + 1, s => by
    have ih := subsL_mem n
    rw [subsL, List.mem_append]
    constructor
    · rintro (h | h)
      · obtain ⟨ss, h1, rfl⟩ := (ih s).mp h
        exact ⟨ss ++ [false], by simp [h1], by rw [posI_snoc]; simp⟩
      · obtain ⟨u, hu, rfl⟩ := List.mem_map.mp h
        obtain ⟨ss, h1, rfl⟩ := (ih u).mp hu
        exact ⟨ss ++ [true], by simp [h1], by rw [posI_snoc, h1]; simp⟩
    · rintro ⟨ss, h, rfl⟩
      obtain ⟨ss, b, rfl, hl⟩ := snoc_of h
      rw [posI_snoc, hl]
      cases b with
      | false => left; simpa using (ih _).mpr ⟨ss, hl, rfl⟩
      | true => right; exact List.mem_map.mpr ⟨posI ss, (ih _).mpr ⟨ss, hl, rfl⟩, by simp⟩
theorem sets_mem {n m : Nat} {s : List Int} : s ∈ setsL n m ↔ ∃ ss : List Bool, ss.length = n ∧ cntB ss ≤ m ∧ s = posI ss := by
  unfold setsL
  rw [List.mem_filter, subsL_mem]
  constructor
  · rintro ⟨⟨ss, h1, rfl⟩, h2⟩
    exact ⟨ss, h1, by rw [← posI_cnt]; exact of_decide_eq_true h2, rfl⟩
  · rintro ⟨ss, h1, h2, rfl⟩
    exact ⟨⟨ss, h1, rfl⟩, decide_eq_true (by rw [posI_cnt]; exact h2)⟩
/-! ## what lives, both ways -/
theorem livR_rows {js : List Job} {sets : List (List Int)} : ∀ {k : Nat} {r : List Int}, r ∈ livR js sets k → r ∈ rowsR js ((spanN js : Int) - (k : Int))
  | 0, r, h => by simpa [livR] using h
  | k + 1, r, h => (List.mem_filter.mp h).1
theorem liv_big {js : List Job} {hs : List Nat} : ∀ {k a : Nat}, (livK js hs k).testBit a = true → a < 2 ^ js.length
  | 0, a, h => poss_big (doub_lt js _) h
  | k + 1, a, h => by
    unfold livK at h
    rw [Nat.testBit_and] at h
    exact poss_big (doub_lt js _) (Bool.and_eq_true_iff.mp h).2
theorem hands_getD {n : Nat} {js : List Job} {i : Nat} (h : i < spanN js) : (handsL n js).getD i 0 = n := by
  unfold handsL
  rw [List.getD_eq_getElem?_getD, List.getElem?_replicate, if_pos h]; rfl
theorem liv_bit {js : List Job} (G : Good 16 js) {n : Nat} {sets : List (List Int)} (hr : ∀ s, s ∈ sets ↔ s ∈ setsL js.length n) : ∀ k, k ≤ spanN js → ∀ bs : List Bool, bs.length = js.length →
    ((livK js (handsL n js) k).testBit (numB bs) = true ↔ (subB (dbB js ((spanN js : Int) - (k : Int))) bs = true ∧ rowB js ((spanN js : Int) - (k : Int)) bs ∈ livR js sets k)) := by
  have hl : (handsL n js).length = spanN js := List.length_replicate
  intro k
  induction k with
  | zero =>
    intro _ bs hb
    show (possN js.length (doubN js (handsL n js).length)).testBit (numB bs) = true ↔ _
    rw [hl, doub_B, poss_bit (dbB_len js _) hb]
    have e : ((spanN js : Int) - ((0 : Nat) : Int)) = (spanN js : Int) := by omega
    rw [e]
    refine ⟨fun h => ⟨h, ?_⟩, fun h => h.1⟩
    show rowB js (spanN js : Int) bs ∈ rowsR js (spanN js : Int)
    exact (rows_bits G).mpr ⟨bs, h, rfl⟩
  | succ k ih =>
    intro hk bs hb
    have ih := ih (by omega)
    have e : ((spanN js : Int) - ((k + 1 : Nat) : Int)) = ((spanN js - (k + 1) : Nat) : Int) := by omega
    have e1 : ((spanN js : Int) - (k : Int)) = ((spanN js - (k + 1) : Nat) : Int) + 1 := by omega
    rw [e1] at ih
    unfold livK livR
    rw [e, hl, hands_getD (by omega), Nat.testBit_and, doub_B, poss_bit (dbB_len js _) hb, Bool.and_eq_true_iff]
    generalize spanN js - (k + 1) = t at *
    have bb := before_bit (n := js.length) (after := livK js (handsL n js) k) (most := n) hb (grB_len js (t : Int)) (grow_B js t)
    unfold naL
    rw [bb, List.mem_filter]
    constructor
    · rintro ⟨⟨ss, cs, r, c, z⟩, d⟩
      obtain ⟨l1, l2, l3⟩ := relB_len r
      rw [grB_len] at l1 l2 l3
      obtain ⟨z1, z2⟩ := (ih cs l3).mp z
      refine ⟨d, (rows_bits G).mpr ⟨bs, d, rfl⟩, List.any_eq_true.mpr ⟨posI ss, (hr _).mpr (sets_mem.mpr ⟨ss, l2, c, rfl⟩), decide_eq_true ?_⟩⟩
      rw [plus_B, rowB_len hb, sB_posI l2, (add_rel (good_pos G) (good_le G) hb l2 l3).mpr r]
      exact z2
    · rintro ⟨d, _, z⟩
      refine ⟨?_, d⟩
      obtain ⟨s, hs, z⟩ := List.any_eq_true.mp z
      have z := of_decide_eq_true z
      obtain ⟨ss, l2, c, rfl⟩ := sets_mem.mp ((hr s).mp hs)
      have zr := livR_rows z
      rw [e1] at zr
      obtain ⟨cs, d2, e2⟩ := (rows_bits G).mp zr
      have l3 : cs.length = js.length := by rw [← subB_len d2, dbB_len]
      rw [plus_B, rowB_len hb, sB_posI l2] at e2 z
      refine ⟨ss, cs, (add_rel (good_pos G) (good_le G) hb l2 l3).mp e2, c, (ih cs l3).mpr ⟨d2, ?_⟩⟩
      rw [← e2]; exact z
theorem liv_zero {js : List Job} (G : Good 16 js) {n : Nat} {sets : List (List Int)} (hr : ∀ s, s ∈ sets ↔ s ∈ setsL js.length n) : livK js (handsL n js) (spanN js) = 0 ↔ livR js sets (spanN js) = [] := by
  have lb := liv_bit G hr (spanN js) (Nat.le_refl _)
  constructor
  · intro h
    refine List.eq_nil_iff_forall_not_mem.mpr fun r hmem => ?_
    obtain ⟨bs, d, rfl⟩ := (rows_bits G).mp (livR_rows hmem)
    have := (lb bs (by rw [← subB_len d, dbB_len])).mpr ⟨d, hmem⟩
    rw [h] at this
    simp at this
  · intro h
    refine Nat.eq_of_testBit_eq fun a => ?_
    rw [Nat.zero_testBit]
    cases c : (livK js (handsL n js) (spanN js)).testBit a with
    | false => rfl
    | true =>
      have ha := liv_big c
      rw [← bitsN_num ha] at c
      have := ((lb _ (bitsN_len _ _)).mp c).2
      rw [h] at this; cases this
theorem livL_bit {js : List Job} (G : Good 16 js) {n : Nat} {sets : List (List Int)} (hr : ∀ s, s ∈ sets ↔ s ∈ setsL js.length n) {m : Nat} (hm : m ≤ spanN js) {bs : List Bool} (hb : bs.length = js.length) :
    ((livL js (handsL n js)).getD m 0).testBit (numB bs) = true ↔ (subB (dbB js (m : Int)) bs = true ∧ rowB js (m : Int) bs ∈ (livJ js sets).getD m []) := by
  have hl : (handsL n js).length = spanN js := List.length_replicate
  unfold livL livJ
  rw [hl]
  by_cases c : livK js (handsL n js) (spanN js) = 0
  · rw [if_pos c, if_pos ((liv_zero G hr).mp c), List.getD_eq_getElem?_getD, List.getD_eq_getElem?_getD, List.getElem?_replicate, List.getElem?_replicate, if_pos (by omega), if_pos (by omega)]
    simp
  · rw [if_neg c, if_neg (fun z => c ((liv_zero G hr).mpr z))]
    unfold livT
    rw [List.getD_eq_getElem?_getD, List.getD_eq_getElem?_getD, List.getElem?_map, List.getElem?_map, List.getElem?_range (by omega)]
    have := liv_bit G hr (spanN js - m) (by omega) bs hb
    have e : ((spanN js : Int) - ((spanN js - m : Nat) : Int)) = (m : Int) := by omega
    rw [e] at this
    exact this
end Ts
namespace Ts
open PySem PySem.Spec PyProof.Rows L2
/-! ## choices: crews against sets -/
/-! ### crews as rows -/
/-! ### sorted lists with the same members -/
theorem lex_total : ∀ {a b : List Int}, HT.lexLt a b = false → HT.lexLt b a = false → a = b
  | [], [], _, _ => rfl
  | [], y :: ys, h, _ => by cases h
  | x :: xs, [], _, h => by cases h
  | x :: xs, y :: ys, h1, h2 => by
    rw [HT.lexLt_cons] at h1 h2
    by_cases e : x = y
    · subst e
      rw [if_pos rfl] at h1 h2
      rw [lex_total h1 h2]
    · rw [if_neg e] at h1
      rw [if_neg (fun z => e z.symm)] at h2
      have := of_decide_eq_false h1
      have := of_decide_eq_false h2
      omega
theorem sorted_same {l m : List (List Int)} (hl : SrtO.Srtd HT.lexLt l) (hm : SrtO.Srtd HT.lexLt m) (nl : l.Nodup) (nm : m.Nodup) (h : ∀ x, x ∈ l ↔ x ∈ m) : l = m :=
  List.Perm.eq_of_pairwise (fun a b _ _ h1 h2 => lex_total h2 h1) hl hm ((List.perm_ext_iff_of_nodup nl nm).mpr h)
theorem subsL_nodup (n : Nat) : (subsL n).Nodup := by
  induction n with
  | zero => simp [subsL]
  | succ n ih =>
    rw [subsL]
    refine List.nodup_append.mpr ⟨ih, ?_, fun a ha b hb e => ?_⟩
    · refine List.Pairwise.map _ (fun a b hab e => hab ?_) ih
      exact List.append_cancel_right e
    · subst e
      obtain ⟨u, _, rfl⟩ := List.mem_map.mp hb
      obtain ⟨ss, h1, e2⟩ := (subsL_mem n _).mp ha
      have : (n : Int) ∈ posI ss := by rw [← e2]; simp
      obtain ⟨i, e3, h3, _⟩ := (posI_mem ss _).mp this
      omega
theorem sets_nodup (n m : Nat) : (setsL n m).Nodup := List.Pairwise.filter _ (subsL_nodup n)
/-! ### one tick of the law's own walk -/
theorem livJ_len (js : List Job) (sets : List (List Int)) : (livJ js sets).length = spanN js + 1 := by
  unfold livJ
  split
  · rw [List.length_replicate]
  · unfold livT; rw [List.length_map, List.length_range]
theorem livJ_at {js : List Job} {sets : List (List Int)} {m : Nat} (h : m ≤ spanN js) : (livJ js sets)[m]? = some ((livJ js sets).getD m []) := by
  have := livJ_len js sets
  rw [List.getD_eq_getElem?_getD, List.getElem?_eq_getElem (by omega)]; rfl
theorem livJ_step {js : List Job} {sets : List (List Int)} {m : Nat} (hm : m < spanN js) {r : List Int} (hr : r ∈ rowsR js (m : Int)) :
    decide (r ∈ (livJ js sets).getD m []) = sets.any fun s => decide (plusR r s ∈ (livJ js sets).getD (m + 1) []) := by
  unfold livJ
  by_cases c : livR js sets (spanN js) = []
  · rw [if_pos c]
    have z : ∀ i, (List.replicate (spanN js + 1) ([] : List (List Int))).getD i [] = [] := fun i => by
      rw [List.getD_eq_getElem?_getD, List.getElem?_replicate]
      split <;> rfl
    rw [z, z]
    simp
  · rw [if_neg c]
    unfold livT
    have z : ∀ i, i ≤ spanN js → ((List.range (spanN js + 1)).map fun m => livR js sets (spanN js - m)).getD i [] = livR js sets (spanN js - i) := fun i hi => by
      rw [List.getD_eq_getElem?_getD, List.getElem?_map, List.getElem?_range (by omega)]; rfl
    rw [z m (by omega), z (m + 1) (by omega), show spanN js - m = spanN js - (m + 1) + 1 by omega, livR_succ]
    have e : ((spanN js : Int) - ((spanN js - (m + 1) + 1 : Nat) : Int)) = (m : Int) := by omega
    rw [e]
    unfold goB
    cases g : sets.any fun s => decide (plusR r s ∈ livR js sets (spanN js - (m + 1))) with
    | true => exact decide_eq_true (List.mem_filter.mpr ⟨hr, g⟩)
    | false => exact decide_eq_false fun y => by rw [(List.mem_filter.mp y).2] at g; cases g
theorem LivAll.get {H : Hp} {vs : List V} {rs : List (List (List Int))} (h : LivAll H vs rs) : ∀ {i : Nat} {rows : List (List Int)}, rs[i]? = some rows → ∃ a, vs[i]? = some (.ref a) ∧ H a = some (.dT (rowsK rows)) := by
  induction h with
  | nil => intro i rows e; simp at e
  | cons a _ ih =>
    intro i rows e
    cases i with
    | zero => obtain ⟨x, rfl, g⟩ := a; cases e; exact ⟨x, rfl, g⟩
    | succ i => exact ih (by simpa using e)
end Ts
namespace Ts
/-! ## one cell each: who can be given cells of his own, no more in all than a rank allows -/
section
variable {α β : Type} [DecidableEq α] [DecidableEq β]
def unU (jobs : List α) (A : α → β → Bool) (I : α → Bool) : β → Bool := fun x => jobs.any fun k => I k && A k x
def cardU (jobs : List α) (I : α → Bool) : Nat := (jobs.filter I).length
structure RankU (r : (β → Bool) → Nat) : Prop where
  mono : ∀ S S' : β → Bool, (∀ x, S x = true → S' x = true) → r S ≤ r S'
  sub : ∀ S S' : β → Bool, r (fun x => S x || S' x) + r (fun x => S x && S' x) ≤ r S + r S'
def RadoU (jobs : List α) (r : (β → Bool) → Nat) (A : α → β → Bool) : Prop := ∀ I : α → Bool, cardU jobs I ≤ r (unU jobs A I)
theorem card_or_and (jobs : List α) (I J : α → Bool) : cardU jobs (fun k => I k || J k) + cardU jobs (fun k => I k && J k) = cardU jobs I + cardU jobs J := by
  unfold cardU
  induction jobs with
  | nil => rfl
  | cons k ks ih =>
    simp only [List.filter_cons]
    cases I k <;> cases J k <;> simp only [Bool.or_self, Bool.and_self, Bool.or_true, Bool.true_or, Bool.or_false, Bool.and_false, Bool.false_and, Bool.and_true, if_true, if_false, List.length_cons, Bool.false_eq_true] <;> omega
theorem card_but {jobs : List α} (nd : jobs.Nodup) (I : α → Bool) (k : α) : cardU jobs I ≤ cardU jobs (fun l => I l && !decide (l = k)) + 1 := by
  unfold cardU
  induction jobs with
  | nil => simp
  | cons l ls ih =>
    obtain ⟨h1, h2⟩ := List.nodup_cons.mp nd
    have ih := ih h2
    simp only [List.filter_cons]
    by_cases e : l = k
    · subst e
      have same : ls.filter (fun m => I m && !decide (m = l)) = ls.filter I := List.filter_congr fun m hm => by
        have : m ≠ l := fun z => h1 (z ▸ hm)
        simp [this]
      rw [same]
      cases I l <;> simp
    · cases I l <;> simp [e] <;> omega
/-- one cell taken out -/
def dropU (A : α → β → Bool) (k : α) (x : β) : α → β → Bool := fun l y => A l y && !(decide (l = k) && decide (y = x))
theorem drop_same {jobs : List α} {A : α → β → Bool} {k : α} {x : β} {I : α → Bool} (h : I k = false) : unU jobs (dropU A k x) I = unU jobs A I := by
  funext z
  unfold unU
  congr 1
  funext l
  unfold dropU
  by_cases e : l = k
  · subst e; rw [h]; rfl
  · simp [e]
theorem rado_drop {jobs : List α} (nd : jobs.Nodup) {r : (β → Bool) → Nat} (R : RankU r) {A : α → β → Bool} (h : RadoU jobs r A) {k : α} {x y : β} (hxy : x ≠ y) : RadoU jobs r (dropU A k x) ∨ RadoU jobs r (dropU A k y) := by
  refine Classical.byContradiction fun no => ?_
  obtain ⟨n1, n2⟩ := not_or.mp no
  obtain ⟨I, hI⟩ := Classical.not_forall.mp n1
  obtain ⟨J, hJ⟩ := Classical.not_forall.mp n2
  have hI := Nat.lt_of_not_le hI
  have hJ := Nat.lt_of_not_le hJ
  have iT : I k = true := by
    cases c : I k with
    | true => rfl
    | false => rw [drop_same c] at hI; exact absurd (h I) (by omega)
  have jT : J k = true := by
    cases c : J k with
    | true => rfl
    | false => rw [drop_same c] at hJ; exact absurd (h J) (by omega)
  have s := R.sub (unU jobs (dropU A k x) I) (unU jobs (dropU A k y) J)
  have m1 := R.mono (unU jobs A fun l => I l || J l) (fun z => unU jobs (dropU A k x) I z || unU jobs (dropU A k y) J z) fun z hz => by
    obtain ⟨l, hl, hz⟩ := List.any_eq_true.mp hz
    obtain ⟨h1, h2⟩ := Bool.and_eq_true_iff.mp hz
    refine Bool.or_eq_true_iff.mpr ?_
    by_cases e : l = k
    · subst e
      by_cases c : z = x
      · have : z ≠ y := fun q => hxy (c.symm.trans q)
        exact .inr (List.any_eq_true.mpr ⟨l, hl, by simp [dropU, jT, h2, this]⟩)
      · exact .inl (List.any_eq_true.mpr ⟨l, hl, by simp [dropU, iT, h2, c]⟩)
    · rcases Bool.or_eq_true_iff.mp h1 with q | q
      · exact .inl (List.any_eq_true.mpr ⟨l, hl, by simp [dropU, q, h2, e]⟩)
      · exact .inr (List.any_eq_true.mpr ⟨l, hl, by simp [dropU, q, h2, e]⟩)
  have m2 := R.mono (unU jobs A fun l => (I l && J l) && !decide (l = k)) (fun z => unU jobs (dropU A k x) I z && unU jobs (dropU A k y) J z) fun z hz => by
    obtain ⟨l, hl, hz⟩ := List.any_eq_true.mp hz
    obtain ⟨h1, h2⟩ := Bool.and_eq_true_iff.mp hz
    obtain ⟨h3, h4⟩ := Bool.and_eq_true_iff.mp h1
    obtain ⟨h5, h6⟩ := Bool.and_eq_true_iff.mp h3
    have e : l ≠ k := by simpa using h4
    exact Bool.and_eq_true_iff.mpr ⟨List.any_eq_true.mpr ⟨l, hl, by simp [dropU, h5, h2, e]⟩, List.any_eq_true.mpr ⟨l, hl, by simp [dropU, h6, h2, e]⟩⟩
  have a1 := h fun l => I l || J l
  have a2 := h fun l => (I l && J l) && !decide (l = k)
  have a3 := card_but nd (fun l => I l && J l) k
  have a4 := card_or_and jobs I J
  omega
/-- how many cells there are to choose from -/
def sizeU (jobs : List α) (cells : List β) (A : α → β → Bool) : Nat := (jobs.map fun k => (cells.filter (A k)).length).sum
theorem sum_lt_of {f g : α → Nat} : ∀ {l : List α} {k : α}, (∀ x ∈ l, f x ≤ g x) → k ∈ l → f k < g k → (l.map f).sum < (l.map g).sum
  | x :: l, k, h, hk, lt => by
    rw [List.map_cons, List.map_cons, List.sum_cons, List.sum_cons]
    have le : ∀ {l : List α}, (∀ x ∈ l, f x ≤ g x) → (l.map f).sum ≤ (l.map g).sum := fun {l} h => by
      induction l with
      | nil => exact Nat.le_refl _
      | cons y l ih =>
        rw [List.map_cons, List.map_cons, List.sum_cons, List.sum_cons]
        exact Nat.add_le_add (h y List.mem_cons_self) (ih fun z hz => h z (List.mem_cons_of_mem _ hz))
    rcases List.mem_cons.mp hk with e | hk
    · subst e
      have := le fun z hz => h z (List.mem_cons_of_mem _ hz)
      omega
    · have := sum_lt_of (fun z hz => h z (List.mem_cons_of_mem _ hz)) hk lt
      have := h x List.mem_cons_self
      omega
theorem filter_len_le {p q : β → Bool} (h : ∀ x, p x = true → q x = true) (l : List β) : (l.filter p).length ≤ (l.filter q).length := by
  induction l with
  | nil => simp
  | cons x l ih =>
    simp only [List.filter_cons]
    cases c : p x with
    | true => rw [h x c]; simp; exact ih
    | false => cases q x <;> simp <;> omega
theorem filter_len_lt {p q : β → Bool} (h : ∀ x, p x = true → q x = true) {y : β} (hq : q y = true) (hp : p y = false) : ∀ {l : List β}, y ∈ l → (l.filter p).length < (l.filter q).length
  | x :: l, hy => by
    have le := filter_len_le h l
    simp only [List.filter_cons]
    rcases List.mem_cons.mp hy with e | hy
    · subst e
      rw [hq, hp]; simp; omega
    · have := filter_len_lt h hq hp hy
      cases c : p x with
      | true => rw [h x c]; simp; omega
      | false => cases q x <;> simp <;> omega
theorem size_drop {jobs : List α} {cells : List β} {A : α → β → Bool} {k : α} {x : β} (hk : k ∈ jobs) (hx : x ∈ cells) (ha : A k x = true) : sizeU jobs cells (dropU A k x) < sizeU jobs cells A := by
  unfold sizeU
  have le : ∀ l y, dropU A k x l y = true → A l y = true := fun l y z => (Bool.and_eq_true_iff.mp z).1
  exact sum_lt_of (fun l _ => filter_len_le (le l) _) hk (filter_len_lt (le k) ha (by simp [dropU]) hx)
/-- all can be given one cell each -/
theorem rado_pick (b0 : β) {jobs : List α} (nd : jobs.Nodup) {r : (β → Bool) → Nat} (R : RankU r) (r1 : ∀ S : β → Bool, (∀ x, S x = false) → r S = 0) (cells : List β) :
    ∀ (n : Nat) (A : α → β → Bool), sizeU jobs cells A = n → (∀ k x, A k x = true → x ∈ cells) → RadoU jobs r A →
      ∃ c : α → β, (∀ k ∈ jobs, A k (c k) = true) ∧ RadoU jobs r fun k x => decide (x = c k) := by
  intro n
  induction n using Nat.strongRecOn with
  | _ n ih =>
    intro A hn hc h
    by_cases two : ∃ k ∈ jobs, ∃ x y, x ≠ y ∧ A k x = true ∧ A k y = true
    · obtain ⟨k, hk, x, y, hxy, hx, hy⟩ := two
      have le : ∀ z l w, dropU A k z l w = true → A l w = true := fun z l w q => (Bool.and_eq_true_iff.mp q).1
      rcases rado_drop nd R h (k := k) hxy with g | g
      · obtain ⟨c, c1, c2⟩ := ih _ (by rw [← hn]; exact size_drop hk (hc k x hx) hx) (dropU A k x) rfl (fun l w q => hc l w (le x l w q)) g
        exact ⟨c, fun l hl => le x l _ (c1 l hl), c2⟩
      · obtain ⟨c, c1, c2⟩ := ih _ (by rw [← hn]; exact size_drop hk (hc k y hy) hy) (dropU A k y) rfl (fun l w q => hc l w (le y l w q)) g
        exact ⟨c, fun l hl => le y l _ (c1 l hl), c2⟩
    · have one : ∀ k ∈ jobs, ∃ x, A k x = true := fun k hk => by
        refine Classical.byContradiction fun no => ?_
        have g := h fun l => decide (l = k)
        rw [r1 _ fun x => by
          cases q : unU jobs A (fun l => decide (l = k)) x with
          | false => rfl
          | true =>
            obtain ⟨l, _, z⟩ := List.any_eq_true.mp q
            obtain ⟨z1, z2⟩ := Bool.and_eq_true_iff.mp z
            have : l = k := by simpa using z1
            subst this
            exact absurd ⟨x, z2⟩ no] at g
        have : 0 < cardU jobs fun l => decide (l = k) := List.length_pos_of_mem (List.mem_filter.mpr ⟨hk, by simp⟩)
        omega
      let c : α → β := fun k => @dite _ (∃ x, A k x = true) (Classical.propDecidable _) (fun q => Classical.choose q) fun _ => b0
      have cc : ∀ k ∈ jobs, A k (c k) = true := fun k hk => by
        have q := one k hk
        have e : c k = Classical.choose q := dif_pos q
        rw [e]
        exact Classical.choose_spec q
      refine ⟨c, cc, fun I => Nat.le_trans (h I) (R.mono _ _ fun x hx => ?_)⟩
      obtain ⟨k, hk, z⟩ := List.any_eq_true.mp hx
      obtain ⟨z1, z2⟩ := Bool.and_eq_true_iff.mp z
      refine List.any_eq_true.mpr ⟨k, hk, Bool.and_eq_true_iff.mpr ⟨z1, decide_eq_true ?_⟩⟩
      exact Classical.byContradiction fun q => two ⟨k, hk, x, c k, q, z2, cc k hk⟩
end
end Ts
namespace Ts
open PySem PySem.Spec PyProof.Rows L2
/-! ## sums -/
def sumN : Nat → (Nat → Nat) → Nat
  | 0, _ => 0
  | n + 1, f => sumN n f + f n
theorem sumN_le {f g : Nat → Nat} : ∀ {n : Nat}, (∀ i, i < n → f i ≤ g i) → sumN n f ≤ sumN n g
  | 0, _ => Nat.le_refl _
  | n + 1, h => Nat.add_le_add (sumN_le fun i hi => h i (by omega)) (h n (by omega))
theorem sumN_congr {f g : Nat → Nat} {n : Nat} (h : ∀ i, i < n → f i = g i) : sumN n f = sumN n g :=
  Nat.le_antisymm (sumN_le fun i hi => Nat.le_of_eq (h i hi)) (sumN_le fun i hi => Nat.le_of_eq (h i hi).symm)
theorem sumN_add {f g : Nat → Nat} : ∀ {n : Nat}, sumN n (fun i => f i + g i) = sumN n f + sumN n g
  | 0 => rfl
  | n + 1 => by
    show sumN n (fun i => f i + g i) + (f n + g n) = (sumN n f + f n) + (sumN n g + g n)
    rw [sumN_add]; omega
theorem sumN_mul {c : Nat} {f : Nat → Nat} : ∀ {n : Nat}, sumN n (fun i => c * f i) = c * sumN n f
  | 0 => by simp [sumN]
  | n + 1 => by
    show sumN n (fun i => c * f i) + c * f n = c * (sumN n f + f n)
    rw [sumN_mul, Nat.mul_add]
theorem sumN_zero {n : Nat} : sumN n (fun _ => 0) = 0 := by
  induction n with
  | zero => rfl
  | succ n ih => show sumN n _ + 0 = 0; rw [ih]
theorem sumN_comm (f : Nat → Nat → Nat) (m : Nat) : ∀ n : Nat, sumN n (fun i => sumN m fun j => f i j) = sumN m fun j => sumN n fun i => f i j
  | 0 => by show 0 = _; exact (sumN_zero (n := m)).symm
  | n + 1 => by
    show sumN n _ + sumN m _ = _
    rw [sumN_comm f m n, ← sumN_add]; rfl
theorem sumN_ge {f : Nat → Nat} {a : Nat} : ∀ {n : Nat}, (∀ i, i < a → 1 ≤ f i) → a ≤ n → a ≤ sumN n f
  | 0, _, h => by omega
  | n + 1, h, ha => by
    show a ≤ sumN n f + f n
    by_cases c : a ≤ n
    · have := sumN_ge h c; omega
    · have : a = n + 1 := by omega
      subst this
      have ih : n ≤ sumN n f := sumN_ge (a := n) (fun i hi => h i (by omega)) (Nat.le_refl _)
      have := h n (by omega)
      omega
theorem sumN_upto {f : Nat → Nat} {a : Nat} (h1 : ∀ i, f i ≤ 1) (h0 : ∀ i, a ≤ i → f i = 0) : ∀ n : Nat, sumN n f ≤ a ∧ sumN n f ≤ n
  | 0 => ⟨Nat.zero_le _, Nat.le_refl _⟩
  | n + 1 => by
    obtain ⟨ih1, ih2⟩ := sumN_upto h1 h0 n
    show sumN n f + f n ≤ a ∧ sumN n f + f n ≤ n + 1
    have := h1 n
    by_cases c : a ≤ n
    · have := h0 n c; omega
    · omega
theorem sumN_tele {f : Nat → Nat} : ∀ {n : Nat}, (∀ i, f i ≤ f (i + 1)) → sumN n (fun i => f (i + 1) - f i) = f n - f 0
  | 0, _ => by simp [sumN]
  | n + 1, h => by
    show sumN n _ + (f (n + 1) - f n) = _
    rw [sumN_tele h]
    have m : ∀ n, f 0 ≤ f n := fun n => by
      induction n with
      | zero => exact Nat.le_refl _
      | succ n ih => exact Nat.le_trans ih (h n)
    have := h n
    have := m n
    omega
theorem sumN_one {n i0 c : Nat} : sumN n (fun i => if i = i0 then c else 0) ≤ c := by
  induction n with
  | zero => exact Nat.zero_le _
  | succ n ih =>
    show sumN n (fun i => if i = i0 then c else 0) + (if n = i0 then c else 0) ≤ c
    by_cases e : n = i0
    · subst e
      have : sumN n (fun i => if i = n then c else 0) = 0 := by
        rw [sumN_congr (g := fun _ => 0) fun i hi => if_neg (by omega)]
        exact sumN_zero
      rw [this, if_pos rfl]; omega
    · rw [if_neg e]; omega
theorem bsum {b : Bool} : b.toNat ≤ 1 := Bool.toNat_le b
/-! ## cells: a work and a tick -/
def rankC (n W T : Nat) (S : Nat × Nat → Bool) : Nat := sumN T fun t => min n (sumN W fun i => (S (i, t)).toNat)
theorem rankC_ok (n W T : Nat) : RankU (rankC n W T) := by
  constructor
  · intro S S' h
    refine sumN_le fun t _ => ?_
    have : sumN W (fun i => (S (i, t)).toNat) ≤ sumN W fun i => (S' (i, t)).toNat := sumN_le fun i _ => by
      cases c : S (i, t) with
      | false => exact Nat.zero_le _
      | true => rw [h _ c]; exact Nat.le_refl _
    omega
  · intro S S'
    unfold rankC
    rw [← sumN_add, ← sumN_add]
    refine sumN_le fun t _ => ?_
    have e : sumN W (fun i => (S (i, t) || S' (i, t)).toNat) + sumN W (fun i => (S (i, t) && S' (i, t)).toNat) = sumN W (fun i => (S (i, t)).toNat) + sumN W fun i => (S' (i, t)).toNat := by
      rw [← sumN_add, ← sumN_add]
      refine sumN_congr fun i _ => ?_
      cases S (i, t) <;> cases S' (i, t) <;> rfl
    have l1 : sumN W (fun i => (S (i, t) && S' (i, t)).toNat) ≤ sumN W fun i => (S (i, t)).toNat := sumN_le fun i _ => by cases S (i, t) <;> cases S' (i, t) <;> decide
    have l2 : sumN W (fun i => (S (i, t) && S' (i, t)).toNat) ≤ sumN W fun i => (S' (i, t)).toNat := sumN_le fun i _ => by cases S (i, t) <;> cases S' (i, t) <;> decide
    dsimp only
    omega
theorem rankC_zero {n W T : Nat} {S : Nat × Nat → Bool} (h : ∀ x, S x = false) : rankC n W T S = 0 := by
  unfold rankC
  rw [sumN_congr (g := fun _ => 0) fun t _ => by rw [sumN_congr (g := fun _ => 0) fun i _ => by rw [h]; rfl, sumN_zero]; omega]
  exact sumN_zero
/-! ## jobs: each work's turns in the round -/
def jobsC (W : Nat) (m : Nat → Nat) : List (Nat × Nat) := (List.range W).flatMap fun i => (List.range (m i)).map fun j => (i, j)
theorem jobsC_mem {W : Nat} {m : Nat → Nat} {k : Nat × Nat} : k ∈ jobsC W m ↔ k.1 < W ∧ k.2 < m k.1 := by
  unfold jobsC
  rw [List.mem_flatMap]
  constructor
  · rintro ⟨i, hi, h⟩
    obtain ⟨j, hj, rfl⟩ := List.mem_map.mp h
    exact ⟨List.mem_range.mp hi, List.mem_range.mp hj⟩
  · rintro ⟨h1, h2⟩
    exact ⟨k.1, List.mem_range.mpr h1, List.mem_map.mpr ⟨k.2, List.mem_range.mpr h2, rfl⟩⟩
theorem jobsC_nodup (W : Nat) (m : Nat → Nat) : (jobsC W m).Nodup := by
  unfold jobsC
  refine List.pairwise_flatMap.mpr ⟨fun i _ => ?_, ?_⟩
  · refine List.pairwise_map.mpr (List.nodup_range.imp fun {a b} h e => h ?_)
    exact (Prod.mk.inj e).2
  · refine List.nodup_range.imp fun {a b} h x hx y hy e => ?_
    obtain ⟨j, _, rfl⟩ := List.mem_map.mp hx
    obtain ⟨j', _, rfl⟩ := List.mem_map.mp hy
    exact h (Prod.mk.inj e).1
theorem filter_range (p : Nat → Bool) : ∀ n : Nat, ((List.range n).filter p).length = sumN n fun j => (p j).toNat
  | 0 => rfl
  | n + 1 => by
    rw [List.range_succ, List.filter_append, List.length_append, filter_range p n]
    show _ = sumN n _ + (p n).toNat
    congr 1
    cases c : p n <;> simp [c]
theorem cardC (m : Nat → Nat) (I : Nat × Nat → Bool) : ∀ W : Nat, cardU (jobsC W m) I = sumN W fun i => sumN (m i) fun j => (I (i, j)).toNat
  | 0 => rfl
  | W + 1 => by
    have ih := cardC m I W
    unfold cardU jobsC at ih ⊢
    rw [List.range_succ, List.flatMap_append, List.filter_append, List.length_append, ih]
    show _ = sumN W _ + sumN (m W) _
    congr 1
    rw [List.flatMap_cons, List.flatMap_nil, List.append_nil, List.filter_map, List.length_map, filter_range]; rfl
/-! ## how much of a turn lies in a tick -/
def ovC (e p j t : Nat) : Nat := min ((t + 1) * e) ((j + 1) * p) - max (t * e) (j * p)
def clC (a b x : Nat) : Nat := min b (max a x)
theorem ov_t {e p j t : Nat} : ovC e p j t = clC (j * p) ((j + 1) * p) ((t + 1) * e) - clC (j * p) ((j + 1) * p) (t * e) := by
  unfold ovC clC
  have h1 : (t + 1) * e = t * e + e := by rw [Nat.add_mul]; omega
  have h2 : (j + 1) * p = j * p + p := by rw [Nat.add_mul]; omega
  omega
theorem ov_j {e p j t : Nat} : ovC e p j t = clC (t * e) ((t + 1) * e) ((j + 1) * p) - clC (t * e) ((t + 1) * e) (j * p) := by
  unfold ovC clC
  have h1 : (t + 1) * e = t * e + e := by rw [Nat.add_mul]; omega
  have h2 : (j + 1) * p = j * p + p := by rw [Nat.add_mul]; omega
  omega
theorem cl_up {a b x y : Nat} (h : x ≤ y) : clC a b x ≤ clC a b y := by unfold clC; omega
theorem ov_sum_t {e p j T : Nat} (h : (j + 1) * p ≤ T * e) : sumN T (fun t => ovC e p j t) = p := by
  rw [sumN_congr fun t _ => ov_t, sumN_tele (f := fun t => clC (j * p) ((j + 1) * p) (t * e)) fun t => cl_up (by rw [Nat.add_mul]; omega)]
  have h2 : (j + 1) * p = j * p + p := by rw [Nat.add_mul]; omega
  unfold clC
  rw [Nat.zero_mul]
  omega
theorem ov_sum_j {e p t m : Nat} : sumN m (fun j => ovC e p j t) ≤ e := by
  rw [sumN_congr fun j _ => ov_j, sumN_tele (f := fun j => clC (t * e) ((t + 1) * e) (j * p)) fun j => cl_up (by rw [Nat.add_mul]; omega)]
  have h1 : (t + 1) * e = t * e + e := by rw [Nat.add_mul]; omega
  unfold clC
  rw [Nat.zero_mul]
  omega
/-- the ticks of a turn -/
def winC (e p j t : Nat) : Bool := decide (j * p < (t + 1) * e) && decide (t * e < (j + 1) * p)
theorem ov_win {e p j t : Nat} (h : winC e p j t = false) : ovC e p j t = 0 := by
  unfold winC at h
  unfold ovC
  have h2 : (j + 1) * p = j * p + p := by rw [Nat.add_mul]; omega
  have h1 : (t + 1) * e = t * e + e := by rw [Nat.add_mul]; omega
  rcases Bool.and_eq_false_iff.mp h with z | z
  · have := of_decide_eq_false z; omega
  · have := of_decide_eq_false z; omega
/-! ## all turns have ticks of their own -/
section
variable {n W T : Nat} {e p : Nat → Nat}
def famC (W T : Nat) (e p : Nat → Nat) (k x : Nat × Nat) : Bool := decide (x.1 = k.1) && (decide (x.1 < W) && (decide (x.2 < T) && winC (e k.1) (p k.1) k.2 x.2))
theorem rado_C (hT : 0 < T) (he : ∀ i, i < W → e i ≤ p i) (hd : ∀ i, i < W → p i ∣ T) (fit : sumN W (fun i => e i * (T / p i)) ≤ n * T) : RadoU (jobsC W fun i => e i * (T / p i)) (rankC n W T) (famC W T e p) := by
  intro I
  rw [cardC]
  refine Nat.le_of_mul_le_mul_left (?_ : T * _ ≤ T * _) hT
  have eT : ∀ i, i < W → p i * (T / p i) = T := fun i hi => Nat.mul_div_cancel' (hd i hi)
  -- each turn's share of the ticks
  have each : ∀ i, i < W → ∀ j, j < e i * (T / p i) → sumN T (fun t => ovC (e i) (p i) j t * (T / p i)) = T := fun i hi j hj => by
    have : (j + 1) * p i ≤ T * e i := by
      have h1 := Nat.mul_le_mul_right (p i) (show j + 1 ≤ e i * (T / p i) from hj)
      have h2 : e i * (T / p i) * p i = T * e i := by rw [Nat.mul_assoc, Nat.mul_comm (T / p i), eT i hi, Nat.mul_comm]
      omega
    rw [sumN_congr (g := fun t => (T / p i) * ovC (e i) (p i) j t) fun t _ => Nat.mul_comm _ _, sumN_mul, ov_sum_t this, Nat.mul_comm, eT i hi]
  have step1 : T * sumN W (fun i => sumN (e i * (T / p i)) fun j => (I (i, j)).toNat) = sumN T fun t => sumN W fun i => sumN (e i * (T / p i)) fun j => (I (i, j)).toNat * (ovC (e i) (p i) j t * (T / p i)) := by
    rw [← sumN_mul, sumN_comm (fun t i => sumN (e i * (T / p i)) fun j => (I (i, j)).toNat * (ovC (e i) (p i) j t * (T / p i))) W T]
    refine sumN_congr fun i hi => ?_
    rw [← sumN_mul, sumN_comm (fun t j => (I (i, j)).toNat * (ovC (e i) (p i) j t * (T / p i))) (e i * (T / p i)) T]
    refine sumN_congr fun j hj => ?_
    rw [sumN_mul, each i hi j hj, Nat.mul_comm]
  rw [step1]
  unfold rankC
  rw [← sumN_mul]
  refine sumN_le fun t ht => ?_
  have z1 : ∀ i, i < W → sumN (e i * (T / p i)) (fun j => (I (i, j)).toNat * (ovC (e i) (p i) j t * (T / p i))) ≤ e i * (T / p i) := fun i hi => by
    refine Nat.le_trans (sumN_le (g := fun j => (T / p i) * ovC (e i) (p i) j t) fun j _ => ?_) ?_
    · rw [Nat.mul_comm (T / p i)]
      have := Nat.mul_le_mul_right (ovC (e i) (p i) j t * (T / p i)) (bsum (b := I (i, j)))
      omega
    · rw [sumN_mul, Nat.mul_comm]
      exact Nat.mul_le_mul_right _ ov_sum_j
  have z2 : ∀ i, i < W → sumN (e i * (T / p i)) (fun j => (I (i, j)).toNat * (ovC (e i) (p i) j t * (T / p i))) ≤ T * (unU (jobsC W fun i => e i * (T / p i)) (famC W T e p) I (i, t)).toNat := fun i hi => by
    cases c : unU (jobsC W fun i => e i * (T / p i)) (famC W T e p) I (i, t) with
    | true =>
      refine Nat.le_trans (z1 i hi) ?_
      have : e i * (T / p i) ≤ p i * (T / p i) := Nat.mul_le_mul_right _ (he i hi)
      rw [eT i hi] at this
      simpa using this
    | false =>
      rw [sumN_congr (g := fun _ => 0) fun j hj => ?_, sumN_zero]
      · exact Nat.zero_le _
      · cases q : I (i, j) with
        | false => simp
        | true =>
          have w : winC (e i) (p i) j t = false := by
            cases w : winC (e i) (p i) j t with
            | false => rfl
            | true =>
              have : unU (jobsC W fun i => e i * (T / p i)) (famC W T e p) I (i, t) = true := List.any_eq_true.mpr ⟨(i, j), jobsC_mem.mpr ⟨hi, hj⟩, by simp [famC, q, w, hi, ht]⟩
              rw [c] at this; cases this
          rw [ov_win w]; simp
  have s1 := sumN_le z1
  have s2 := sumN_le z2
  rw [sumN_mul] at s2
  have := Nat.le_trans s1 fit
  rw [Nat.mul_comm n T] at this
  by_cases c : n ≤ sumN W fun i => (unU (jobsC W fun i => e i * (T / p i)) (famC W T e p) I (i, t)).toNat
  · rw [Nat.min_eq_left c]; exact this
  · rw [Nat.min_eq_right (by omega)]; exact s2
/-- so many ticks had a work up to the moment -/
def hadC (m : Nat → Nat) (c : Nat → Nat → Nat) (i t : Nat) : Nat := sumN (m i) fun j => (decide (c i j < t)).toNat
theorem pfair (hT : 0 < T) (he0 : ∀ i, i < W → 0 < e i) (he : ∀ i, i < W → e i ≤ p i) (hd : ∀ i, i < W → p i ∣ T) (fit : sumN W (fun i => e i * (T / p i)) ≤ n * T) :
    ∃ x : Nat → Nat → Nat, (∀ i, i < W → ∀ t, t ≤ T → t * e i / p i ≤ x i t ∧ x i t ≤ (t * e i + p i - 1) / p i) ∧ (∀ i, i < W → ∀ t, t < T → x i t ≤ x i (t + 1) ∧ x i (t + 1) ≤ x i t + 1) ∧ (∀ t, t < T → sumN W (fun i => x i (t + 1) - x i t) ≤ n) := by
  obtain ⟨c, c1, c2⟩ := rado_pick (0, 0) (jobsC_nodup W fun i => e i * (T / p i)) (rankC_ok n W T) (fun S h => rankC_zero h) ((List.range W).flatMap fun i => (List.range T).map fun t => (i, t)) _ (famC W T e p) rfl (fun k x h => by
    unfold famC at h
    simp only [Bool.and_eq_true, decide_eq_true_eq] at h
    exact List.mem_flatMap.mpr ⟨x.1, List.mem_range.mpr h.2.1, List.mem_map.mpr ⟨x.2, List.mem_range.mpr h.2.2.1, rfl⟩⟩) (rado_C hT he hd fit)
  have eT : ∀ i, i < W → p i * (T / p i) = T := fun i hi => Nat.mul_div_cancel' (hd i hi)
  have at_ : ∀ i, i < W → ∀ j, j < e i * (T / p i) → (c (i, j)).1 = i ∧ (c (i, j)).2 < T ∧ j * p i < ((c (i, j)).2 + 1) * e i ∧ (c (i, j)).2 * e i < (j + 1) * p i := fun i hi j hj => by
    have h := c1 (i, j) (jobsC_mem.mpr ⟨hi, hj⟩)
    unfold famC winC at h
    simp only [Bool.and_eq_true, decide_eq_true_eq] at h
    exact ⟨h.1, h.2.2.1, h.2.2.2.1, h.2.2.2.2⟩
  have inc : ∀ i t, hadC (fun i => e i * (T / p i)) (fun i j => (c (i, j)).2) i (t + 1) = hadC (fun i => e i * (T / p i)) (fun i j => (c (i, j)).2) i t + sumN (e i * (T / p i)) fun j => (decide ((c (i, j)).2 = t)).toNat := fun i t => by
    unfold hadC
    rw [← sumN_add]
    refine sumN_congr fun j _ => ?_
    rcases Nat.lt_trichotomy (c (i, j)).2 t with z | z | z
    · rw [decide_eq_true (show (c (i, j)).2 < t + 1 by omega), decide_eq_true z, decide_eq_false (show ¬ (c (i, j)).2 = t by omega)]; rfl
    · rw [decide_eq_true (show (c (i, j)).2 < t + 1 by omega), decide_eq_false (show ¬ (c (i, j)).2 < t by omega), decide_eq_true z]; rfl
    · rw [decide_eq_false (show ¬ (c (i, j)).2 < t + 1 by omega), decide_eq_false (show ¬ (c (i, j)).2 < t by omega), decide_eq_false (show ¬ (c (i, j)).2 = t by omega)]; rfl
  refine ⟨hadC (fun i => e i * (T / p i)) (fun i j => (c (i, j)).2), fun i hi t ht => ?_, fun i hi t ht => ?_, fun t ht => ?_⟩
  · have p0 : 0 < p i := Nat.lt_of_lt_of_le (he0 i hi) (he i hi)
    have top : t * e i / p i ≤ e i * (T / p i) := by
      refine Nat.div_le_of_le_mul ?_
      rw [← Nat.mul_assoc, Nat.mul_comm (p i), Nat.mul_assoc, eT i hi, Nat.mul_comm t]
      exact Nat.mul_le_mul_left _ ht
    constructor
    · refine sumN_ge (fun j hj => ?_) top
      have hj2 : j < e i * (T / p i) := by omega
      obtain ⟨_, _, _, a4⟩ := at_ i hi j hj2
      have : (j + 1) * p i ≤ t * e i := by
        have := Nat.mul_le_mul_right (p i) (show j + 1 ≤ t * e i / p i from hj)
        exact Nat.le_trans this (Nat.div_mul_le_self _ _)
      have lt : (c (i, j)).2 * e i < t * e i := by omega
      rw [decide_eq_true (Nat.lt_of_mul_lt_mul_right lt)]; exact Nat.le_refl _
    · -- a turn that begins later has no tick yet
      have key : hadC (fun i => e i * (T / p i)) (fun i j => (c (i, j)).2) i t = sumN (e i * (T / p i)) (fun j => if j < e i * (T / p i) then (decide ((c (i, j)).2 < t)).toNat else 0) := sumN_congr fun j hj => by rw [if_pos hj]
      rw [key]
      refine (sumN_upto (fun j => ?_) (fun j hj => ?_) _).1
      · split
        · exact bsum
        · exact Nat.zero_le _
      · split
        · rename_i hj2
          obtain ⟨_, _, a3, _⟩ := at_ i hi j hj2
          have : t * e i ≤ j * p i := by
            have h1 := Nat.mul_le_mul_right (p i) hj
            have h2 := Nat.div_add_mod (t * e i + p i - 1) (p i)
            have h3 := Nat.mod_lt (t * e i + p i - 1) p0
            rw [Nat.mul_comm] at h2
            omega
          have lt : t * e i < ((c (i, j)).2 + 1) * e i := by omega
          have := Nat.lt_of_mul_lt_mul_right lt
          rw [decide_eq_false (by omega)]; rfl
        · rfl
  · have one : sumN (e i * (T / p i)) (fun j => (decide ((c (i, j)).2 = t)).toNat) ≤ 1 := by
      have h := c2 fun k => decide (c k = (i, t))
      rw [cardC] at h
      have r1 : rankC n W T (unU (jobsC W fun i => e i * (T / p i)) (fun k x => decide (x = c k)) fun k => decide (c k = (i, t))) ≤ 1 := by
        unfold rankC
        refine Nat.le_trans (sumN_le (g := fun t' => if t' = t then 1 else 0) fun t' _ => ?_) sumN_one
        refine Nat.le_trans (Nat.min_le_right _ _) (Nat.le_trans (sumN_le (g := fun i' => if i' = i then (if t' = t then 1 else 0) else 0) fun i' _ => ?_) sumN_one)
        cases q : unU (jobsC W fun i => e i * (T / p i)) (fun k x => decide (x = c k)) (fun k => decide (c k = (i, t))) (i', t') with
        | false => exact Nat.zero_le _
        | true =>
          obtain ⟨k, _, z⟩ := List.any_eq_true.mp q
          obtain ⟨z1, z2⟩ := Bool.and_eq_true_iff.mp z
          have z3 := of_decide_eq_true z1
          have z4 := of_decide_eq_true z2
          rw [z3] at z4
          obtain ⟨z5, z6⟩ := Prod.mk.inj z4
          rw [if_pos z5, if_pos z6]; exact Nat.le_refl _
      have part : sumN (e i * (T / p i)) (fun j => (decide ((c (i, j)).2 = t)).toNat) ≤ sumN W fun i' => sumN (e i' * (T / p i')) fun j => (decide (c (i', j) = (i, t))).toNat := by
        have le1 : ∀ (f : Nat → Nat) (m : Nat), i < m → f i ≤ sumN m f := fun f m hm => by
          induction m with
          | zero => omega
          | succ m ih =>
            show f i ≤ sumN m f + f m
            by_cases q : i = m
            · subst q; omega
            · have := ih (by omega); omega
        refine Nat.le_trans (sumN_le fun j hj => ?_) (le1 (fun i' => sumN (e i' * (T / p i')) fun j => (decide (c (i', j) = (i, t))).toNat) W hi)
        obtain ⟨a1, _⟩ := at_ i hi j hj
        by_cases q : (c (i, j)).2 = t
        · rw [decide_eq_true q, decide_eq_true (show c (i, j) = (i, t) from Prod.ext a1 q)]; exact Nat.le_refl _
        · rw [decide_eq_false q]; exact Nat.zero_le _
      omega
    have := inc i t
    omega
  · have h := c2 fun k => decide ((c k).2 = t)
    rw [cardC] at h
    have e1 : sumN W (fun i => hadC (fun i => e i * (T / p i)) (fun i j => (c (i, j)).2) i (t + 1) - hadC (fun i => e i * (T / p i)) (fun i j => (c (i, j)).2) i t) = sumN W fun i => sumN (e i * (T / p i)) fun j => (decide ((c (i, j)).2 = t)).toNat := sumN_congr fun i _ => by
      have := inc i t
      omega
    rw [e1]
    refine Nat.le_trans h ?_
    unfold rankC
    refine Nat.le_trans (sumN_le (g := fun t' => if t' = t then n else 0) fun t' _ => ?_) sumN_one
    by_cases q : t' = t
    · rw [if_pos q]; exact Nat.min_le_left _ _
    · rw [if_neg q, sumN_congr (g := fun _ => 0) fun i _ => ?_, sumN_zero]
      · omega
      · cases q2 : unU (jobsC W fun i => e i * (T / p i)) (fun k x => decide (x = c k)) (fun k => decide ((c k).2 = t)) (i, t') with
        | false => rfl
        | true =>
          obtain ⟨k, _, z⟩ := List.any_eq_true.mp q2
          obtain ⟨z1, z2⟩ := Bool.and_eq_true_iff.mp z
          have z3 := of_decide_eq_true z1
          have z4 := of_decide_eq_true z2
          rw [← z4] at z3
          exact absurd z3 q
end
end Ts
namespace Ts
open PySem PySem.Spec PyProof.Rows L2
/-! ## there is a way through the round just if the shares sum to no more than the hands -/
theorem relB_of : ∀ {gs as ss bs : List Bool}, as.length = gs.length → ss.length = gs.length → bs.length = gs.length → (∀ i, i < gs.length → (bs.getD i false).toNat + (gs.getD i false).toNat = (as.getD i false).toNat + (ss.getD i false).toNat) → relB gs as ss bs
  | [], [], [], [], _, _, _, _ => trivial
  | g :: gs, a :: as, s :: ss, b :: bs, h1, h2, h3, h => ⟨h 0 (by simp), relB_of (by simpa using h1) (by simpa using h2) (by simpa using h3) fun i hi => h (i + 1) (by simpa using hi)⟩
  | [], _ :: _, _, _, h, _, _, _ => by cases h
  | [], [], _ :: _, _, _, h, _, _ => by cases h
  | [], [], [], _ :: _, _, _, h, _ => by cases h
  | _ :: _, [], _, _, h, _, _, _ => by cases h
  | _ :: _, _ :: _, [], _, _, h, _, _ => by cases h
  | _ :: _, _ :: _, _ :: _, [], _, _, h, _ => by cases h
theorem subB_of : ∀ {cs ps : List Bool}, ps.length = cs.length → (∀ i, i < cs.length → ps.getD i false = true → cs.getD i false = true) → subB cs ps = true
  | [], [], _, _ => rfl
  | c :: cs, p :: ps, hl, h => by
    refine Bool.and_eq_true_iff.mpr ⟨?_, subB_of (by simpa using hl) fun i hi => h (i + 1) (by simpa using hi)⟩
    have h0 : p = true → c = true := h 0 (by simp)
    cases p with
    | false => rfl
    | true => rw [h0 rfl]; rfl
  | [], _ :: _, h, _ => by cases h
  | _ :: _, [], h, _ => by cases h
def rangeB (W : Nat) (f : Nat → Bool) : List Bool := (List.range W).map f
theorem rangeB_len (W : Nat) (f : Nat → Bool) : (rangeB W f).length = W := by simp [rangeB]
theorem rangeB_at {W i : Nat} (f : Nat → Bool) (h : i < W) : (rangeB W f).getD i false = f i := by
  unfold rangeB
  rw [List.getD_eq_getElem?_getD, List.getElem?_map, List.getElem?_range h]; rfl
theorem rangeB_cnt (f : Nat → Bool) : ∀ W : Nat, cntB (rangeB W f) = sumN W fun i => (f i).toNat
  | 0 => rfl
  | W + 1 => by
    have ih := rangeB_cnt f W
    unfold cntB rangeB at ih ⊢
    rw [List.range_succ, List.map_append, List.filter_append, List.length_append, ih]
    show _ = sumN W _ + (f W).toNat
    congr 1
    cases c : f W <;> simp [c]
def topJ (js : List Job) (i : Nat) : Nat := (js.map fun j => j.2.1).getD i 0
def botJ (js : List Job) (i : Nat) : Nat := (js.map fun j => j.2.2).getD i 0
theorem mapJ_at {js : List Job} {α : Type} (f : Job → α) (d : α) {i : Nat} (h : i < js.length) : ∃ j, js[i]? = some j ∧ j ∈ js ∧ (js.map f).getD i d = f j := ⟨js[i], List.getElem?_eq_getElem h, List.getElem_mem h, by rw [List.getD_eq_getElem?_getD, List.getElem?_map, List.getElem?_eq_getElem h]; rfl⟩
theorem list_sum (l : List Nat) : l.sum = sumN l.length fun i => l.getD i 0 := by
  induction hn : l.length generalizing l with
  | zero => rw [List.length_eq_zero_iff.mp hn]; rfl
  | succ n ih =>
    have hne : l ≠ [] := fun e => by rw [e] at hn; cases hn
    obtain ⟨ys, y, rfl⟩ : ∃ ys y, l = ys ++ [y] := ⟨l.dropLast, l.getLast hne, (List.dropLast_concat_getLast hne).symm⟩
    have hl : ys.length = n := by simpa using hn
    rw [List.sum_append, ih ys hl]
    show _ = sumN n (fun i => (ys ++ [y]).getD i 0) + (ys ++ [y]).getD n 0
    congr 1
    · refine sumN_congr fun i hi => ?_
      rw [List.getD_eq_getElem?_getD, List.getD_eq_getElem?_getD, List.getElem?_append_left (by omega)]
    · rw [List.getD_eq_getElem?_getD, List.getElem?_append_right (by omega), hl, Nat.sub_self]
      simp
theorem low_nat (e p t : Nat) : lowI e p (t : Int) = ((t * e / p : Nat) : Int) := by unfold lowI; norm_cast
theorem high_nat {e p t : Nat} (hp : 0 < p) : highI e p (t : Int) = (((t * e + p - 1) / p : Nat) : Int) := by
  unfold highI
  rw [show ((t : Int) * (e : Int) + (p : Int) - 1) = ((t * e + p - 1 : Nat) : Int) by rw [Int.natCast_sub (by omega)]; norm_cast]
  norm_cast
theorem high_le {e p t : Nat} (hp : 0 < p) : t * e / p ≤ (t * e + p - 1) / p ∧ (t * e + p - 1) / p ≤ t * e / p + 1 := by
  constructor
  · exact Nat.div_le_div_right (by omega)
  · rw [← Nat.add_div_right _ hp]
    exact Nat.div_le_div_right (by omega)
theorem dec_nat {a x : Nat} (h1 : a ≤ x) (h2 : x ≤ a + 1) : (decide (a < x)).toNat = x - a := by
  by_cases c : a < x
  · rw [decide_eq_true c]; simp; omega
  · rw [decide_eq_false c]; simp; omega
theorem liv_fits {js : List Job} (G : Good 16 js) {n : Nat} (fit : partsN js (spanN js) ≤ n * spanN js) : livK js (handsL n js) (spanN js) ≠ 0 := by
  have sp0 := span_pos G
  have hl : (handsL n js).length = spanN js := List.length_replicate
  have tj : ∀ i, i < js.length → ∃ j, js[i]? = some j ∧ j ∈ js ∧ topJ js i = j.2.1 ∧ botJ js i = j.2.2 := fun i hi => by
    obtain ⟨j, h1, h2, h3⟩ := mapJ_at (fun j : Job => j.2.1) 0 hi
    obtain ⟨j', h1', _, h3'⟩ := mapJ_at (fun j : Job => j.2.2) 0 hi
    rw [h1] at h1'
    cases h1'
    exact ⟨j, h1, h2, h3, h3'⟩
  have fit2 : sumN js.length (fun i => topJ js i * (spanN js / botJ js i)) ≤ n * spanN js := by
    refine Nat.le_trans (Nat.le_of_eq ?_) fit
    unfold partsN
    rw [list_sum, List.length_map]
    refine sumN_congr fun i hi => ?_
    obtain ⟨j, h1, _, h3, h4⟩ := tj i hi
    obtain ⟨j', h1', _, h5⟩ := mapJ_at (fun j : Job => j.2.1 * (spanN js / j.2.2)) 0 hi
    rw [h1] at h1'
    cases h1'
    rw [h5, h3, h4]
  obtain ⟨x, x1, x2, x3⟩ := pfair (n := n) (W := js.length) (T := spanN js) (e := topJ js) (p := botJ js) sp0
    (fun i hi => by obtain ⟨j, _, h2, h3, _⟩ := tj i hi; rw [h3]; obtain ⟨g1, g2, _⟩ := G.part j h2; omega)
    (fun i hi => by obtain ⟨j, _, h2, h3, h4⟩ := tj i hi; rw [h3, h4]; exact good_le G j h2)
    (fun i hi => by obtain ⟨j, _, h2, _, h4⟩ := tj i hi; rw [h4]; exact dvd_span h2) fit2
  have pos : ∀ i, i < js.length → 0 < botJ js i := fun i hi => by obtain ⟨j, _, h2, _, h4⟩ := tj i hi; rw [h4]; exact good_pos G j h2
  -- who is ahead
  let bs : Nat → List Bool := fun t => rangeB js.length fun i => decide (t * topJ js i / botJ js i < x i t)
  let ss : Nat → List Bool := fun t => rangeB js.length fun i => decide (x i t < x i (t + 1))
  have lb : ∀ t, (bs t).length = js.length := fun t => rangeB_len _ _
  have sub : ∀ t, t ≤ spanN js → subB (dbB js (t : Int)) (bs t) = true := fun t ht => subB_of ((lb t).trans (dbB_len js _).symm) fun i hi z => by
    rw [dbB_len] at hi
    obtain ⟨j, h1, h2, h3, h4⟩ := tj i hi
    have z : decide (t * topJ js i / botJ js i < x i t) = true := (rangeB_at (fun i => decide (t * topJ js i / botJ js i < x i t)) hi).symm.trans z
    have z := of_decide_eq_true z
    unfold dbB
    obtain ⟨j', h1', _, h5⟩ := mapJ_at (fun j : Job => decide (lowI j.2.1 j.2.2 (t : Int) < highI j.2.1 j.2.2 (t : Int))) false hi
    rw [h1] at h1'
    cases h1'
    rw [h5]
    have y := (x1 i hi t ht).2
    rw [h3, h4] at z y
    refine decide_eq_true ?_
    rw [low_nat, high_nat (good_pos G j h2)]
    exact Int.ofNat_lt.mpr (Nat.lt_of_lt_of_le z y)
  have rel : ∀ t, t < spanN js → relB (grB js (t : Int)) (bs t) (ss t) (bs (t + 1)) := fun t ht => relB_of ((lb t).trans (grB_len js _).symm) ((rangeB_len _ _).trans (grB_len js _).symm) ((lb (t + 1)).trans (grB_len js _).symm) fun i hi => by
    rw [grB_len] at hi
    obtain ⟨j, h1, h2, h3, h4⟩ := tj i hi
    have e1 : (bs t).getD i false = decide (t * topJ js i / botJ js i < x i t) := rangeB_at _ hi
    have e2 : (bs (t + 1)).getD i false = decide ((t + 1) * topJ js i / botJ js i < x i (t + 1)) := rangeB_at _ hi
    have e3 : (ss t).getD i false = decide (x i t < x i (t + 1)) := rangeB_at _ hi
    have e4 : (grB js (t : Int)).getD i false = decide (lowI j.2.1 j.2.2 (t : Int) < lowI j.2.1 j.2.2 ((t : Int) + 1)) := by
      obtain ⟨j', h1', _, h5⟩ := mapJ_at (fun j : Job => decide (lowI j.2.1 j.2.2 (t : Int) < lowI j.2.1 j.2.2 ((t : Int) + 1))) false hi
      rw [h1] at h1'
      cases h1'
      exact h5
    have lg := low_grows (t := (t : Int)) (good_pos G j h2) (good_le G j h2)
    have y1 := x1 i hi t (by omega)
    have y2 := x1 i hi (t + 1) (by omega)
    have y3 := x2 i hi t ht
    have q1 := (high_le (e := topJ js i) (t := t) (pos i hi)).2
    have q2 := (high_le (e := topJ js i) (t := t + 1) (pos i hi)).2
    have ec : ((t : Int) + 1) = ((t + 1 : Nat) : Int) := by omega
    rw [ec, low_nat, low_nat, ← h3, ← h4] at lg
    rw [e1, e2, e3, e4, ec, low_nat, low_nat, ← h3, ← h4, dec_nat y1.1 (by omega), dec_nat y2.1 (by omega), dec_nat y3.1 y3.2]
    generalize (decide (((t * topJ js i / botJ js i : Nat) : Int) < (((t + 1) * topJ js i / botJ js i : Nat) : Int))).toNat = g at lg ⊢
    omega
  have cnt : ∀ t, t < spanN js → cntB (ss t) ≤ n := fun t ht => by
    refine Nat.le_trans (Nat.le_of_eq ?_) (x3 t ht)
    show cntB (rangeB js.length _) = _
    rw [rangeB_cnt]
    refine sumN_congr fun i hi => ?_
    have y3 := x2 i hi t ht
    exact dec_nat y3.1 y3.2
  have chain : ∀ k, k ≤ spanN js → (livK js (handsL n js) k).testBit (numB (bs (spanN js - k))) = true := by
    intro k
    induction k with
    | zero =>
      intro _
      show (possN js.length (doubN js (handsL n js).length)).testBit _ = true
      rw [hl, doub_B, poss_bit (dbB_len js _) (lb _)]
      exact sub _ (Nat.le_refl _)
    | succ k ih =>
      intro hk
      have ih := ih (by omega)
      unfold livK
      rw [hl, hands_getD (by omega), Nat.testBit_and, doub_B, poss_bit (dbB_len js _) (lb _), sub _ (by omega), Bool.and_true]
      rw [show spanN js - k = (spanN js - (k + 1)) + 1 by omega] at ih
      unfold naL
      exact (before_bit (lb _) (grB_len js _) (grow_B js _)).mpr ⟨_, _, rel _ (by omega), cnt _ (by omega), ih⟩
  intro z
  have := chain (spanN js) (Nat.le_refl _)
  rw [z] at this
  simp at this
/-! ### and back -/
theorem addB_sum : ∀ {r : List Int} {ss : List Bool}, r.length = ss.length → (addB r ss).sum = r.sum + (cntB ss : Int)
  | [], [], _ => rfl
  | x :: r, s :: ss, h => by
    show ((x + (s.toNat : Int)) :: addB r ss).sum = (x :: r).sum + _
    rw [List.sum_cons, List.sum_cons, addB_sum (by simpa using h), cntB_cons]
    push_cast
    omega
  | [], _ :: _, h => by cases h
  | _ :: _, [], h => by cases h
def lowSum (js : List Job) (t : Int) : Int := (js.map fun j => lowI j.2.1 j.2.2 t).sum
theorem rowB_sum {t : Int} : ∀ {js : List Job} {bs : List Bool}, bs.length = js.length → lowSum js t ≤ (rowB js t bs).sum
  | [], [], _ => Int.le_refl _
  | j :: js, b :: bs, h => by
    have ih := rowB_sum (t := t) (js := js) (bs := bs) (by simpa using h)
    unfold lowSum at ih ⊢
    show ((lowI j.2.1 j.2.2 t) :: js.map fun j => lowI j.2.1 j.2.2 t).sum ≤ ((lowI j.2.1 j.2.2 t + (b.toNat : Int)) :: rowB js t bs).sum
    rw [List.sum_cons, List.sum_cons]
    omega
  | [], _ :: _, h => by cases h
  | _ :: _, [], h => by cases h
theorem rowB_zero : ∀ {js : List Job} {bs : List Bool}, subB (dbB js 0) bs = true → (∀ j ∈ js, 0 < j.2.2) → (rowB js 0 bs).sum = 0
  | [], [], _, _ => rfl
  | j :: js, b :: bs, h, hp => by
    obtain ⟨h1, h2⟩ := Bool.and_eq_true_iff.mp h
    have ih := rowB_zero h2 fun j hj => hp j (List.mem_cons_of_mem _ hj)
    have l0 : lowI j.2.1 j.2.2 0 = 0 := by unfold lowI; simp
    have h0 : highI j.2.1 j.2.2 0 = 0 := by
      rw [high_eq (hp j List.mem_cons_self), l0]; simp
    show ((lowI j.2.1 j.2.2 0 + (b.toNat : Int)) :: rowB js 0 bs).sum = 0
    rw [List.sum_cons, ih, l0]
    have h1 : (!b || decide (lowI j.2.1 j.2.2 0 < highI j.2.1 j.2.2 0)) = true := h1
    rw [l0, h0] at h1
    cases b with
    | false => simp
    | true => simp at h1
  | [], _ :: _, h, _ => by cases h
  | _ :: _, [], h, _ => by cases h
theorem livR_sum {js : List Job} (G : Good 16 js) {n : Nat} {sets : List (List Int)} (hr : ∀ s, s ∈ sets ↔ s ∈ setsL js.length n) : ∀ k, k ≤ spanN js → ∀ r ∈ livR js sets k, lowSum js (spanN js : Int) ≤ r.sum + ((n * k : Nat) : Int)
  | 0, _, r, h => by
    obtain ⟨bs, d, rfl⟩ := (rows_bits G).mp (show r ∈ rowsR js (spanN js : Int) from h)
    have := rowB_sum (t := (spanN js : Int)) (js := js) (bs := bs) (by rw [← subB_len d, dbB_len])
    simpa using this
  | k + 1, hk, r, h => by
    obtain ⟨h1, h2⟩ := List.mem_filter.mp (show r ∈ (rowsR js _).filter _ from h)
    obtain ⟨s, hs, z⟩ := List.any_eq_true.mp h2
    obtain ⟨ss, l2, c, rfl⟩ := sets_mem.mp ((hr s).mp hs)
    have ih := livR_sum G hr k (by omega) _ (of_decide_eq_true z)
    have lr := rows_each r h1
    rw [plus_B, lr, sB_posI l2, addB_sum (lr.trans l2.symm)] at ih
    have e : ((n * (k + 1) : Nat) : Int) = ((n * k : Nat) : Int) + (n : Int) := by rw [Nat.mul_add]; push_cast; omega
    rw [e]
    omega
theorem low_span {js : List Job} : lowSum js (spanN js : Int) = ((partsN js (spanN js) : Nat) : Int) := by
  have go : ∀ l : List Job, (∀ j ∈ l, j.2.2 ∣ spanN js) → (∀ j ∈ l, True) → (l.map fun j => lowI j.2.1 j.2.2 (spanN js : Int)).sum = ((l.map fun j => j.2.1 * (spanN js / j.2.2)).sum : Nat) := fun l => by
    induction l with
    | nil => intro _ _; rfl
    | cons j l ih =>
      intro h _
      rw [List.map_cons, List.map_cons, List.sum_cons, List.sum_cons, ih (fun j hj => h j (List.mem_cons_of_mem _ hj)) fun _ _ => trivial, low_nat]
      have : spanN js * j.2.1 / j.2.2 = j.2.1 * (spanN js / j.2.2) := by
        rw [Nat.mul_comm]
        exact Nat.mul_div_assoc _ (h j List.mem_cons_self)
      rw [this]
      push_cast; rfl
  exact go js (fun j hj => dvd_span hj) fun _ _ => trivial
theorem fits_liv {js : List Job} (G : Good 16 js) {n : Nat} (h : livK js (handsL n js) (spanN js) ≠ 0) : partsN js (spanN js) ≤ n * spanN js := by
  have hr : ∀ s, s ∈ setsL js.length n ↔ s ∈ setsL js.length n := fun _ => Iff.rfl
  have ne : livR js (setsL js.length n) (spanN js) ≠ [] := fun z => h ((liv_zero G hr).mpr z)
  obtain ⟨r, hm⟩ := List.exists_mem_of_ne_nil _ ne
  have s := livR_sum G hr (spanN js) (Nat.le_refl _) r hm
  have hr0 := livR_rows hm
  rw [show ((spanN js : Int) - (spanN js : Int)) = 0 by omega] at hr0
  obtain ⟨bs, d, rfl⟩ := (rows_bits G).mp hr0
  rw [rowB_zero d (good_pos G), low_span] at s
  omega
theorem liv_iff {js : List Job} (G : Good 16 js) (n : Nat) : livK js (handsL n js) (spanN js) ≠ 0 ↔ partsN js (spanN js) ≤ n * spanN js := ⟨fits_liv G, liv_fits G⟩
end Ts
namespace Ts
open PySem PySem.Spec PyProof.Rows L2
/-! ## what is alive, both ways -/
theorem filter_all {α : Type} (l : List α) : l.filter (fun _ => true) = l := List.filter_eq_self.mpr fun _ _ => rfl
theorem livJ_filter {js : List Job} {sets : List (List Int)} {m : Nat} (hm : m ≤ spanN js) : ∃ p, (livJ js sets).getD m [] = (rowsR js (m : Int)).filter p := by
  unfold livJ
  split
  · refine ⟨fun _ => false, ?_⟩
    rw [List.getD_eq_getElem?_getD, List.getElem?_replicate, if_pos (by omega)]
    simp
  · unfold livT
    rw [List.getD_eq_getElem?_getD, List.getElem?_map, List.getElem?_range (by omega)]
    show ∃ p, livR js sets (spanN js - m) = _
    cases h : spanN js - m with
    | zero =>
      refine ⟨fun _ => true, ?_⟩
      rw [show (m : Int) = (spanN js : Int) by omega, filter_all]; rfl
    | succ k => exact ⟨goB js sets k, by rw [livR_succ, show ((spanN js : Int) - ((k + 1 : Nat) : Int)) = (m : Int) by omega]⟩
theorem db_span {js : List Job} (G : Good 16 js) {t : Int} (ht : t = 0 ∨ t = (spanN js : Int)) {bs : List Bool} (h : subB (dbB js t) bs = true) : numB bs = 0 := by
  have key : ∀ j ∈ js, ¬ lowI j.2.1 j.2.2 t < highI j.2.1 j.2.2 t := fun j hj => by
    have hh := high_eq (e := j.2.1) (t := t) (good_pos G j hj)
    have z : t * (j.2.1 : Int) % (j.2.2 : Int) = 0 := by
      rcases ht with rfl | rfl
      · simp
      · obtain ⟨c, hc⟩ := dvd_span hj
        rw [hc]
        push_cast
        rw [Int.mul_assoc]
        exact Int.mul_emod_right _ _
    rw [if_pos z] at hh
    omega
  have go : ∀ (l : List Job) (bs : List Bool), (∀ j ∈ l, ¬ lowI j.2.1 j.2.2 t < highI j.2.1 j.2.2 t) → subB (dbB l t) bs = true → numB bs = 0 := by
    intro l
    induction l with
    | nil =>
      intro bs _ h
      cases bs with
      | nil => rfl
      | cons _ _ => cases h
    | cons j l ih =>
      intro bs hk h
      cases bs with
      | nil => cases h
      | cons b bs =>
        obtain ⟨h1, h2⟩ := Bool.and_eq_true_iff.mp h
        have h1 : (!b || decide (lowI j.2.1 j.2.2 t < highI j.2.1 j.2.2 t)) = true := h1
        rw [decide_eq_false (hk j List.mem_cons_self)] at h1
        have ih := ih bs (fun j hj => hk j (List.mem_cons_of_mem _ hj)) h2
        cases b with
        | false => show 0 + 2 * numB bs = 0; omega
        | true => cases h1
  exact go js bs key h
theorem liv_one {js : List Job} (G : Good 16 js) {n : Nat} (h : livK js (handsL n js) (spanN js) ≠ 0) : (livK js (handsL n js) (spanN js)).testBit 0 = true := by
  have hr : ∀ s, s ∈ setsL js.length n ↔ s ∈ setsL js.length n := fun _ => Iff.rfl
  refine Classical.byContradiction fun no => h (Nat.eq_of_testBit_eq fun a => ?_)
  rw [Nat.zero_testBit]
  cases c : (livK js (handsL n js) (spanN js)).testBit a with
  | false => rfl
  | true =>
    have ha := liv_big c
    rw [← bitsN_num ha] at c
    have d := ((liv_bit G hr (spanN js) (Nat.le_refl _) _ (bitsN_len _ _)).mp c).1
    rw [show ((spanN js : Int) - (spanN js : Int)) = 0 by omega] at d
    rw [db_span G (.inl rfl) d] at c
    exact absurd c no
end Ts
namespace Ts
open PySem PySem.Spec PyProof.Rows L2
/-! ## ways through the round -/
def wayN (js : List Job) (hs : List Nat) : Nat → Nat → Nat
  | 0, _ => 1
  | k + 1, a => ((choicesN js hs (hs.length - (k + 1)) a).map fun c => wayN js hs k (a + c - growN js (hs.length - (k + 1)))).sum
def keysW (js : List Job) (hs : List Nat) : Nat → List Nat
  | 0 => if aliveB js hs 0 0 = true then [0] else []
  | k + 1 => ((subsN js.length).getD (doubN js (hs.length - (k + 1))) []).filter (aliveB js hs (hs.length - (k + 1)))
theorem alive_zero {js : List Job} (G : Good 16 js) {n : Nat} {sets : List (List Int)} (mem : ∀ s, s ∈ sets ↔ s ∈ setsL js.length n) : aliveB js (handsL n js) 0 0 = decide (List.replicate js.length (0 : Int) ∈ (livJ js sets).getD 0 []) ∧ rowB js 0 (List.replicate js.length false) = List.replicate js.length 0 := by
  have e0 : rowB js 0 (List.replicate js.length false) = List.replicate js.length 0 := by
    have go : ∀ l : List Job, rowB l 0 (List.replicate l.length false) = List.replicate l.length 0 := fun l => by
      induction l with
      | nil => rfl
      | cons j l ih =>
        show (lowI j.2.1 j.2.2 0 + 0) :: rowB l 0 (List.replicate l.length false) = 0 :: List.replicate l.length 0
        rw [ih]
        congr 1
        unfold lowI
        simp
    exact go js
  refine ⟨?_, e0⟩
  have n0 : ∀ k : Nat, numB (List.replicate k false) = 0 := fun k => by
    induction k with
    | zero => rfl
    | succ k ih => rw [List.replicate_succ]; show 0 + 2 * numB _ = 0; rw [ih]
  have lb := livL_bit G mem (m := 0) (Nat.zero_le _) (bs := List.replicate js.length false) List.length_replicate
  rw [n0] at lb
  have eb : rowB js ((0 : Nat) : Int) (List.replicate js.length false) = List.replicate js.length 0 := e0
  rw [eb] at lb
  have sub : ∀ cs : List Bool, subB cs (List.replicate cs.length false) = true := fun cs => by
    induction cs with
    | nil => rfl
    | cons c cs ih => rw [List.length_cons, List.replicate_succ]; exact ih
  have sb := sub (dbB js ((0 : Nat) : Int))
  rw [dbB_len] at sb
  unfold aliveB
  rw [← Nat.testBit_eq_decide_div_mod_eq]
  cases c : ((livL js (handsL n js)).getD 0 0).testBit 0 with
  | true => exact (decide_eq_true (lb.mp c).2).symm
  | false => exact (decide_eq_false fun z => by rw [lb.mpr ⟨sb, z⟩] at c; cases c).symm
end Ts
namespace Ts
open PySem PySem.Spec PyProof.Rows L2
/-! ## dicts of who is ahead, and in how many ways one goes on -/
def natK (f : Nat → Nat) (as : List Nat) : List (L2.Key × V) := as.map fun a : Nat => (Sum.inl (a : Int), V.int (f a : Int))
def waysK (js : List Job) (hs : List Nat) (k : Nat) : List (L2.Key × V) := natK (wayN js hs k) (keysW js hs k)
/-- from the end of the round: the i-th one holds for i ticks ahead of it -/
def WaysTo (H : Hp) (js : List Job) (hs : List Nat) (vs : List V) (k : Nat) : Prop := vs.length = k + 1 ∧ ∀ i, i ≤ k → ∃ d, vs[i]? = some (.ref d) ∧ H d = some (.dK (waysK js hs i))
theorem WaysTo.mono {H H' : Hp} {js : List Job} {hs : List Nat} {vs : List V} {k : Nat} (h : WaysTo H js hs vs k) (s : Same H H') : WaysTo H' js hs vs k := ⟨h.1, fun i hi => let ⟨d, e1, e2⟩ := h.2 i hi; ⟨d, e1, s _ _ e2⟩⟩
theorem WaysTo.snoc {H : Hp} {js : List Job} {hs : List Nat} {vs : List V} {k : Nat} {d : Addr} (h : WaysTo H js hs vs k) (g : H d = some (.dK (waysK js hs (k + 1)))) : WaysTo H js hs (vs ++ [.ref d]) (k + 1) := by
  refine ⟨by rw [List.length_append, h.1]; rfl, fun i hi => ?_⟩
  by_cases c : i ≤ k
  · obtain ⟨d2, e1, e2⟩ := h.2 i c
    exact ⟨d2, by rw [List.getElem?_append_left (by rw [h.1]; omega)]; exact e1, e2⟩
  · have : i = k + 1 := by omega
    subst this
    exact ⟨d, by rw [List.getElem?_append_right (by rw [h.1]; omega), h.1, Nat.sub_self]; rfl, g⟩
theorem WaysTo.but {H H' : Hp} {js : List Job} {hs : List Nat} {vs : List V} {k : Nat} {L : Addr} {us : List V} (h : WaysTo H js hs vs k) (e : H L = some (.lst us)) (b : But L H H') : WaysTo H' js hs vs k :=
  ⟨h.1, fun i hi => let ⟨d, e1, e2⟩ := h.2 i hi; ⟨d, e1, b _ _ (fun z => by rw [z, e] at e2; cases e2) e2⟩⟩
/-! ## the law's own count -/
/-- a number for each row -/
def rowsN (f : List Int → Nat) (rows : List (List Int)) : List (List L2.Key × V) := rows.map fun r => (keyR r, V.int (f r : Int))
/-- pairs (row, number) of a list -/
inductive PairN (f : List Int → Nat) (H : Hp) : List Addr → List (List L2.Key × Addr × V) → List (List Int) → Prop
  | nil : PairN f H [] [] []
  | cons {p a : Addr} {r : List Int} {ps : List Addr} {qs : List (List L2.Key × Addr × V)} {rows : List (List Int)} (h : H p = some (.tup [.ref a, .int (f r : Int)])) (g : H a = some (.tup (r.map V.int))) (t : PairN f H ps qs rows) : PairN f H (p :: ps) ((keyR r, a, .int (f r : Int)) :: qs) (r :: rows)
theorem PairN.mono {f : List Int → Nat} {H H' : Hp} {ps : List Addr} {qs : List (List L2.Key × Addr × V)} {rows : List (List Int)} (h : PairN f H ps qs rows) (s : Same H H') : PairN f H' ps qs rows := by
  induction h with
  | nil => exact .nil
  | cons a b _ ih => exact .cons (s _ _ a) (s _ _ b) ih
theorem PairN.snoc {f : List Int → Nat} {H : Hp} {ps : List Addr} {qs : List (List L2.Key × Addr × V)} {rows : List (List Int)} {p a : Addr} {r : List Int} (h : PairN f H ps qs rows) (e : H p = some (.tup [.ref a, .int (f r : Int)])) (g : H a = some (.tup (r.map V.int))) :
    PairN f H (ps ++ [p]) (qs ++ [(keyR r, a, .int (f r : Int))]) (rows ++ [r]) := by
  induction h with
  | nil => exact .cons e g .nil
  | cons a b _ ih => exact .cons a b ih
theorem PairN.pairs {f : List Int → Nat} {K : PySem.W.Frag} {H : Hp} {ps : List Addr} {qs : List (List L2.Key × Addr × V)} {rows : List (List Int)} (h : PairN f H ps qs rows) : Paired (KP K H) ps qs ∧ qs.map (fun q => (q.1, q.2.2)) = rowsN f rows ∧ ps.length = rows.length := by
  induction h with
  | nil => exact ⟨.nil, rfl, rfl⟩
  | cons a b _ ih =>
    obtain ⟨h1, h2, h3⟩ := ih
    refine ⟨.cons ⟨SqT.of a, by rw [b]; dsimp only; rw [keyR_V]⟩ h1, ?_, by rw [List.length_cons, List.length_cons, h3]⟩
    rw [List.map_cons, h2]; rfl
end Ts
namespace Ts
open PySem PySem.Spec PyProof.Rows L2
/-! ## a tuple once: itself -/
theorem tup_once (l : Addr) (items : Array Value) (n : Nat) (dd : Option Addr) (sl : Array (Option Value)) (u : Tok) :
    Meets (Builtin.«tuple.__mul__» ⟨[.ref l, .int 1 u], []⟩) (fun _ R s => s.heap.get? l = some { cls := .type "tuple", dict := dd, data := .seq items n, slots := sl } ∧ R (.ok (.ret (Value.ref l))) s) :=
  .of_wp fun prog w A R s h => by
    obtain ⟨hp, g, d, tk, os⟩ := s
    obtain ⟨hl, h⟩ := h
    have f1 := AutoSeq1.idx_int
    have c0 : (decide ((1 : Int) < -(2 ^ 63)) || decide ((1 : Int) ≥ 2 ^ 63)) = false := by decide
    have c1 : (items.isEmpty || (1 : Int) == 1) = true := by simp
    wp_walk using wpAny_loadPart' hl
    exact ⟨_, rfl, h⟩
/-- a tuple so many times, one at least -/
def rRepU (K : PySem.W.Frag) : R2 := fun x y H Q => ∃ (l : Addr) (k : Int) (xs : List V), x = .ref l ∧ y = .int k ∧ SqT K H l xs ∧ xs ≠ [] ∧ 1 ≤ k ∧ k ≤ 1000 ∧ xs.length ≤ 1000 ∧ (k = 1 → Q (.ref l) H) ∧ (2 ≤ k → ∀ p, H p = none → Q (.ref p) (upd H p (.tup (List.replicate k.toNat xs).flatten)))
theorem op_repU {X : Cx} : OpR X (binaryOp .Mult) (rRepU X.K) := by
  intro pins s σ H x y v u Q I rx ry h
  obtain ⟨l, k, xs, rfl, rfl, hT, hne, h1, h2, hz, qa, qb⟩ := h
  by_cases c : k = 1
  · subst c
    cases rx
    obtain ⟨t, rfl⟩ := ry
    obtain ⟨its, r, ⟨⟨cls, dd, data, sl⟩, ho, hc, n, hd⟩, hs⟩ := I.tuple hT
    simp only at hc hd
    subst hc hd
    exact wpAny_binaryOp_repeat_ref (T := "tuple") (U := "int") (by decide) ⟨_, ho, rfl⟩ (fun s' => typeIs_int s' 1 t) noFill_tuple_mul F.fills_int_mul F.slot_int_rmul repeat_tuple F.slot_int_index.lookup
      (call_meets F.slot_int_rmul (typeIs_int s 1 t) F.entry_int_rmul (F.args_int_rmul_2 _ _) (int_rmul_tuple 1 t l its.toArray n dd sl)
        ⟨ho, rfl, ⟨_, ho, rfl⟩, call_meets F.slot_tuple_mul ⟨_, ho, rfl⟩ F.entry_tuple_mul (F.args_tuple_mul_2 _ _) (tup_once l its.toArray n dd sl t) ⟨ho, .ref l, H, I, rfl, qa rfl⟩⟩)
  · exact op_repT pins s σ H (.ref l) (.int k) v u Q I rx ry ⟨l, k, xs, rfl, rfl, hT, hne, by omega, h2, hz, qb (by omega)⟩
end Ts
namespace Ts
open PySem PySem.Spec PyProof.Rows L2
/-! ## any way through the round, and that it is a right table -/
def anyN (js : List Job) (hs : List Nat) : Nat → Nat → Nat → List Nat
  | 0, _, _ => []
  | k + 1, m, a => (choicesN js hs m a).headD 0 :: anyN js hs k (m + 1) (a + (choicesN js hs m a).headD 0 - growN js m)
/-- rows of works, tick by tick, that keep all -/
def goodT (js : List Job) (n : Nat) : List (List Int) → Nat → List Int → Prop
  | [], _, _ => True
  | s :: rs, m, had => s ∈ setsL js.length n ∧ plusR had s ∈ rowsR js ((m : Int) + 1) ∧ goodT js n rs (m + 1) (plusR had s)
def rowOf (c : Nat) : List Int := (membersN c).map fun m : Nat => (m : Int)
/-- the table that comes about -/
def tabR (js : List Job) (n : Nat) : List (List Int) := (anyN js (handsL n js) (spanN js) 0 0).map rowOf
/-- just if the shares sum to no more than the hands -/
theorem alive_fits {js : List Job} (G : Good 16 js) (n : Nat) : aliveB js (handsL n js) 0 0 = decide (partsN js (spanN js) ≤ n * spanN js) := by
  have hl : (handsL n js).length = spanN js := List.length_replicate
  have h2 := liv_iff G n
  unfold aliveB
  rw [← Nat.testBit_eq_decide_div_mod_eq]
  unfold livL
  rw [hl]
  by_cases c : livK js (handsL n js) (spanN js) = 0
  · rw [if_pos c, List.getD_eq_getElem?_getD, List.getElem?_replicate, if_pos (by omega), decide_eq_false (fun z => h2.mpr z c)]; exact Nat.zero_testBit 0
  · rw [if_neg c, List.getD_eq_getElem?_getD, List.getElem?_map, List.getElem?_range (by omega), decide_eq_true (h2.mp c)]
    exact liv_one G c
/-! ## the checker's own look finds it right -/
theorem inc_get (had : List Int) (k i : Nat) : (inc1 had k).getD i 0 = had.getD i 0 + if i = k ∧ k < had.length then 1 else 0 := by
  unfold inc1
  rw [List.getD_eq_getElem?_getD, List.getElem?_set, List.getD_eq_getElem?_getD, List.getD_eq_getElem?_getD]
  by_cases e : k = i
  · subst e
    by_cases c : k < had.length
    · rw [if_pos rfl, if_pos c, if_pos ⟨rfl, c⟩]; rfl
    · rw [if_pos rfl, if_neg c, if_neg (fun z => c z.2), List.getElem?_eq_none (by omega)]; rfl
  · rw [if_neg e, if_neg (fun z => e z.1.symm)]; simp
theorem incAll_get : ∀ (os : List Nat) (had : List Int) (i : Nat), os.Nodup → (∀ o ∈ os, o < had.length) → (incAll had (os.map fun o : Nat => some (o : Int))).getD i 0 = had.getD i 0 + if i ∈ os then 1 else 0
  | [], had, i, _, _ => by simp [incAll]
  | o :: os, had, i, nd, h => by
    obtain ⟨n1, n2⟩ := List.nodup_cons.mp nd
    have ih := incAll_get os (inc1 had o) i n2 fun q hq => by rw [inc1_len]; exact h q (List.mem_cons_of_mem _ hq)
    show (incAll (inc1 had (o : Int).toNat) (os.map fun o : Nat => some (o : Int))).getD i 0 = _
    rw [Int.toNat_natCast, ih, inc_get]
    have ho := h o List.mem_cons_self
    by_cases c : i = o
    · subst c
      rw [if_pos ⟨rfl, ho⟩, if_neg n1, if_pos List.mem_cons_self]; omega
    · rw [if_neg (fun z => c z.1)]
      by_cases d : i ∈ os
      · rw [if_pos d, if_pos (List.mem_cons_of_mem _ d)]; omega
      · rw [if_neg d, if_neg (fun z => (List.mem_cons.mp z).elim c d)]; omega
def posN (ss : List Bool) : List Nat := posL id ss 0
theorem posN_asc (ss : List Bool) : (posN ss).Pairwise (· < ·) := by
  have go : ∀ (ss : List Bool) (i : Nat), (posL id ss i).Pairwise (· < ·) := fun ss => by
    induction ss with
    | nil => intro i; exact .nil
    | cons s ss ih =>
      intro i
      unfold posL
      split
      · exact .cons (fun m hm => by have := (posL_in id ss (i + 1) m hm).1; omega) (ih _)
      · exact ih _
  exact go ss 0
theorem posN_lt {ss : List Bool} {m : Nat} (h : m ∈ posN ss) : m < ss.length := by have := (posL_in id ss 0 m h).2; omega
theorem plus_inc {had : List Int} {ss : List Bool} (h : ss.length = had.length) : incAll had ((posI ss).map some) = plusR had (posI ss) := by
  have e : (posI ss).map some = (posN ss).map fun o : Nat => some (o : Int) := by unfold posI posN; rw [List.map_map]; rfl
  refine List.ext_getElem (by rw [incAll_len]; simp [plusR]) fun i h1 h2 => ?_
  have g := incAll_get (posN ss) had i ((posN_asc ss).imp fun {a b} z e => by omega) fun o ho => by rw [← h]; exact posN_lt ho
  rw [← e] at g
  have e1 : (incAll had ((posI ss).map some)).getD i 0 = (incAll had ((posI ss).map some))[i] := by rw [List.getD_eq_getElem?_getD, List.getElem?_eq_getElem h1]; rfl
  have e2 : (plusR had (posI ss))[i] = had.getD i 0 + (if ((i : Int) ∈ posI ss) then 1 else 0) := by simp only [plusR, List.getElem_map, List.getElem_range]
  rw [← e1, g, e2]
  congr 1
  have : (i : Int) ∈ posI ss ↔ i ∈ posN ss := by
    unfold posI posN
    rw [List.mem_map]
    constructor
    · rintro ⟨m, hm, z⟩
      rw [show i = m by omega]; exact hm
    · intro z; exact ⟨i, z, rfl⟩
  by_cases c : i ∈ posN ss
  · rw [if_pos c, if_pos (this.mpr c)]
  · rw [if_neg c, if_neg (fun z => c (this.mp z))]
theorem asc_B {many : Nat} : ∀ (os : List Nat) (least : Nat), os.Pairwise (· < ·) → (∀ o ∈ os, least ≤ o ∧ o < many) → ascB (many : Int) (os.map fun o : Nat => some (o : Int)) (least : Int) = true
  | [], _, _, _ => rfl
  | o :: os, least, h, hb => by
    obtain ⟨h1, h2⟩ := List.pairwise_cons.mp h
    have b := hb o List.mem_cons_self
    have ih := asc_B os (o + 1) h2 fun q hq => ⟨h1 q hq, (hb q (List.mem_cons_of_mem _ hq)).2⟩
    show (inRg (some (o : Int)) (least : Int) ((many : Int) - 1) && ascB (many : Int) _ ((o : Int) + 1)) = true
    rw [show ((o : Int) + 1) = ((o + 1 : Nat) : Int) by omega, ih, Bool.and_true]
    exact decide_eq_true ⟨by omega, by omega⟩
/-! ## what is asked -/
/-- a table, or none -/
def TabV (H : Hp) (js : List Job) (n : Nat) (v : V) : Prop := (aliveB js (handsL n js) 0 0 = false ∧ v = .non) ∨ (aliveB js (handsL n js) 0 0 = true ∧ ∃ (p : Addr) (us : List V), v = .ref p ∧ H p = some (.tup us) ∧ RowT H us (tabR js n))
theorem TabV.mono {H H' : Hp} {js : List Job} {n : Nat} {v : V} (h : TabV H js n v) (s : Same H H') : TabV H' js n v := by
  rcases h with h | ⟨h, p, us, e, a, r⟩
  · exact .inl h
  · exact .inr ⟨h, p, us, e, s _ _ a, r.mono s⟩
def spIsRight (K : PySem.W.Frag) (C : Addr) : Sp := fun vs H Q _ => ∃ (a : Addr) (v : V) (n : Nat) (js : List Job) (t : TabT), vs = [.ref a, v] ∧ LotAt K C H a n js ∧ Good 16 js ∧ 0 < js.length ∧ js.length ≤ 6 ∧ spanN js ≤ 720 ∧ n ≤ 1000 ∧ TabP K H v t ∧
  ∀ H', Same H H' → Q (.bl (keepsB js (List.replicate (spanN js) (n : Int)) t)) H'
def spIsTable (K : PySem.W.Frag) (C : Addr) : Sp := spIsRight K C
/-! ## step by step -/
/-! ## the law's own look at a table -/
def notNear (js : List Job) (r : List Int) (t : Int) : List Nat := posL (fun q : Job × Int => !nearB q.1.2.1 q.1.2.2 q.2 t) (js.zip r) 0
def spKeptJ (K : PySem.W.Frag) : Sp := fun vs H Q _ => ∃ (p q h : Addr) (n : Nat) (js : List Job) (r : List Int) (t : Int), vs = [.ref p, .ref h, .int t] ∧ SqT K H p [.int (n : Int), .ref q] ∧ Dp K H (.ref q) (jobsD js) ∧ SqT K H h (r.map V.int) ∧ Good 16 js ∧ js.length ≤ 6 ∧ r.length = js.length ∧
  ∀ H', Same H H' → Q (.bl (notNear js r t).isEmpty) H'
theorem hu65 {A : Around} {k : Nat} (hr : Room k A) : A.units + 65 < cLine := Nat.lt_of_le_of_lt (Nat.add_le_add_left (by decide : 65 ≤ 100) _) (hu100 hr)
end Ts
namespace Ts
open PySem PySem.Spec PyProof.Rows L2
/-! ## rules under a frag of one's own, for use in comprehensions -/
theorem reprVK {X : Cx} {K : PySem.W.Frag} (h : X.K = K) (hg : X.A.guards = some []) (hu : X.A.units + 100 < cLine) : CallR X (.builtin "repr") (fun xs H Q => ∃ v d, xs = [v] ∧ Dp K H v d ∧ d.showable = true ∧ d.hasDict = false ∧ d.depth < 60 ∧ d.shown.length ≤ sizeLine ∧ Q (.str d.shown) H) := by
  subst h; exact call_reprV hg hu
theorem notInDK {X : Cx} {K : PySem.W.Frag} (h : X.K = K) (hu : X.A.units + 65 < cLine) : OpR X (compareOp .NotIn) (rNotInD K) := by
  subst h; exact op_notInD hu
end Ts
namespace Ts
open PySem PySem.Spec PyProof.Rows L2
/-! ## the law's own first tables, tick by tick -/
abbrev Part := List (List Int) × List Int
def goOn (L : List (List (List Int))) (t : Nat) (e : Part) (s : List Int) : Bool := decide (plusR e.2 s ∈ L.getD (t + 1) [])
def onP (e : Part) (s : List Int) : Part := (e.1 ++ [s], plusR e.2 s)
def stepP (L : List (List (List Int))) (sets : List (List Int)) (t : Nat) (e : Part) : List Part := (sets.filter (goOn L t e)).map (onP e)
def begP (L : List (List (List Int))) (zero : List Int) : List Part := if zero ∈ L.getD 0 [] then [([], zero)] else []
def foundP (L : List (List (List Int))) (sets : List (List Int)) (most : Nat) (zero : List Int) : Nat → List Part
  | 0 => begP L zero
  | t + 1 => ((foundP L sets most zero t).flatMap (stepP L sets t)).take most
def everyP (L : List (List (List Int))) (sets : List (List Int)) (zero : List Int) : Nat → List Part
  | 0 => begP L zero
  | t + 1 => (everyP L sets zero t).flatMap (stepP L sets t)
def zeroR (js : List Job) : List Int := List.replicate js.length 0
def tablesJ (js : List Job) (sets : List (List Int)) (most : Nat) : List (List (List Int)) := (foundP (livJ js sets) sets most (zeroR js) (spanN js)).map (·.1)
def everyJ (js : List Job) (sets : List (List Int)) : List (List (List Int)) := (everyP (livJ js sets) sets (zeroR js) (spanN js)).map (·.1)
theorem take_snoc {α : Type} (l : List α) (x : α) (m : Nat) : (l ++ [x]).take m = if l.length < m then l.take m ++ [x] else l.take m := by
  by_cases c : l.length < m
  · rw [if_pos c, List.take_of_length_le (l := l ++ [x]) (by rw [List.length_append]; show l.length + 1 ≤ m; omega), List.take_of_length_le (by omega)]
  · rw [if_neg c, List.take_append_of_le_length (by omega)]
theorem take_flat {α β : Type} (f : α → List β) : ∀ (l : List α) (m : Nat), (∀ x ∈ l, f x ≠ []) → (l.flatMap f).take m = ((l.take m).flatMap f).take m
  | [], m, _ => by simp
  | x :: l, 0, _ => by simp
  | x :: l, m + 1, h => by
    have h1 : 0 < (f x).length := List.length_pos_iff.mpr (h x List.mem_cons_self)
    rw [List.take_succ_cons, List.flatMap_cons, List.flatMap_cons, List.take_append, List.take_append]
    congr 1
    have e1 := take_flat f l (m + 1 - (f x).length) fun y hy => h y (List.mem_cons_of_mem _ hy)
    have e2 := take_flat f (l.take m) (m + 1 - (f x).length) fun y hy => h y (List.mem_cons_of_mem _ (List.mem_of_mem_take hy))
    rw [e1, e2, List.take_take, Nat.min_eq_left (by omega)]
theorem liv_rows {js : List Job} {sets : List (List Int)} {m : Nat} (hm : m ≤ spanN js) {r : List Int} (h : r ∈ (livJ js sets).getD m []) : r ∈ rowsR js (m : Int) := by
  obtain ⟨p, e⟩ := livJ_filter (js := js) (sets := sets) hm
  rw [e] at h
  exact (List.mem_filter.mp h).1
theorem every_live {js : List Job} {sets : List (List Int)} : ∀ t, t ≤ spanN js → ∀ e ∈ everyP (livJ js sets) sets (zeroR js) t, e.2 ∈ (livJ js sets).getD t [] ∧ e.1.length = t
  | 0, _, e, h => by
    unfold everyP begP at h
    split at h
    · rename_i c; rw [List.mem_singleton.mp h]; exact ⟨c, rfl⟩
    · cases h
  | t + 1, ht, e, h => by
    obtain ⟨e0, h0, h1⟩ := List.mem_flatMap.mp h
    obtain ⟨s, h2, rfl⟩ := List.mem_map.mp h1
    obtain ⟨h3, h4⟩ := List.mem_filter.mp h2
    refine ⟨of_decide_eq_true h4, ?_⟩
    show (e0.1 ++ [s]).length = t + 1
    rw [List.length_append, (every_live t (by omega) e0 h0).2]; rfl
theorem step_some {js : List Job} {sets : List (List Int)} {t : Nat} (ht : t < spanN js) {e : Part} (h : e.2 ∈ (livJ js sets).getD t []) : stepP (livJ js sets) sets t e ≠ [] := by
  have st := livJ_step ht (liv_rows (by omega) h) (sets := sets)
  rw [decide_eq_true h] at st
  obtain ⟨s, hs, z⟩ := List.any_eq_true.mp st.symm
  intro hn
  have : onP e s ∈ stepP (livJ js sets) sets t e := List.mem_map.mpr ⟨s, List.mem_filter.mpr ⟨hs, z⟩, rfl⟩
  rw [hn] at this
  cases this
theorem found_take {js : List Job} {sets : List (List Int)} {most : Nat} (h1 : 1 ≤ most) : ∀ t, t ≤ spanN js → foundP (livJ js sets) sets most (zeroR js) t = (everyP (livJ js sets) sets (zeroR js) t).take most
  | 0, _ => by
    unfold foundP everyP begP
    split
    · rw [List.take_of_length_le (by simpa using h1)]
    · rw [List.take_nil]
  | t + 1, ht => by
    show ((foundP _ sets most _ t).flatMap _).take most = ((everyP _ sets _ t).flatMap _).take most
    rw [found_take h1 t (by omega)]
    exact (take_flat _ _ _ fun e he => step_some (by omega) (every_live t (by omega) e he).1).symm
theorem tables_take {js : List Job} {sets : List (List Int)} {most : Nat} (h1 : 1 ≤ most) : tablesJ js sets most = (everyJ js sets).take most := by
  unfold tablesJ everyJ
  rw [found_take h1 _ (Nat.le_refl _), List.map_take]
theorem every_some {js : List Job} {sets : List (List Int)} (h : zeroR js ∈ (livJ js sets).getD 0 []) : ∀ t, t ≤ spanN js → everyP (livJ js sets) sets (zeroR js) t ≠ []
  | 0, _ => by unfold everyP begP; rw [if_pos h]; simp
  | t + 1, ht => by
    have ih := every_some h t (by omega)
    intro hn
    cases e : everyP (livJ js sets) sets (zeroR js) t with
    | nil => exact ih e
    | cons x l =>
      have hx := (every_live (js := js) (sets := sets) t (by omega) x (by rw [e]; exact List.mem_cons_self)).1
      have hs := step_some (js := js) (sets := sets) (t := t) (by omega) hx
      have hn2 : (everyP (livJ js sets) sets (zeroR js) t).flatMap (stepP (livJ js sets) sets t) = [] := hn
      rw [e, List.flatMap_cons] at hn2
      exact hs (List.append_eq_nil_iff.mp hn2).1
theorem good_snoc {js : List Job} {n : Nat} {s : List Int} : ∀ (rs : List (List Int)) (m : Nat) (had : List Int), goodT js n rs m had → s ∈ setsL js.length n → plusR (rs.foldl plusR had) s ∈ rowsR js (((m + rs.length : Nat) : Int) + 1) → goodT js n (rs ++ [s]) m had
  | [], m, had, _, h1, h2 => ⟨h1, h2, trivial⟩
  | r :: rs, m, had, h, h1, h2 => by
    obtain ⟨a, b, c⟩ := h
    refine ⟨a, b, good_snoc rs (m + 1) _ c h1 ?_⟩
    rw [List.length_cons, show m + (rs.length + 1) = m + 1 + rs.length by omega] at h2
    exact h2
theorem every_good {js : List Job} {n : Nat} {sets : List (List Int)} (mem : ∀ s, s ∈ sets → s ∈ setsL js.length n) : ∀ t, t ≤ spanN js → ∀ e ∈ everyP (livJ js sets) sets (zeroR js) t, goodT js n e.1 0 (zeroR js) ∧ e.2 = e.1.foldl plusR (zeroR js)
  | 0, _, e, h => by
    unfold everyP begP at h
    split at h
    · rw [List.mem_singleton.mp h]; exact ⟨trivial, rfl⟩
    · cases h
  | t + 1, ht, e, h => by
    have hl := (every_live (t + 1) ht e h).1
    obtain ⟨e0, h0, h1⟩ := List.mem_flatMap.mp h
    obtain ⟨s, h2, rfl⟩ := List.mem_map.mp h1
    obtain ⟨h3, h4⟩ := List.mem_filter.mp h2
    obtain ⟨g1, g2⟩ := every_good mem t (by omega) e0 h0
    have l0 := (every_live t (by omega) e0 h0).2
    have hr := liv_rows ht hl
    refine ⟨good_snoc e0.1 0 _ g1 (mem s h3) ?_, ?_⟩
    · rw [← g2, Nat.zero_add, l0]
      have e1 : ((t + 1 : Nat) : Int) = (t : Int) + 1 := by omega
      rw [← e1]; exact hr
    · show plusR e0.2 s = (e0.1 ++ [s]).foldl plusR (zeroR js)
      rw [List.foldl_append, ← g2]; rfl
theorem tables_good {js : List Job} {n most : Nat} {sets : List (List Int)} (h1 : 1 ≤ most) (mem : ∀ s, s ∈ sets → s ∈ setsL js.length n) : ∀ rows ∈ tablesJ js sets most, goodT js n rows 0 (zeroR js) ∧ rows.length = spanN js := by
  intro rows h
  rw [tables_take h1] at h
  obtain ⟨e, he, rfl⟩ := List.mem_map.mp (List.mem_of_mem_take h)
  exact ⟨(every_good mem _ (Nat.le_refl _) e he).1, (every_live _ (Nat.le_refl _) e he).2⟩
theorem tables_len {js : List Job} {sets : List (List Int)} {most : Nat} (h1 : 1 ≤ most) : (tablesJ js sets most).length ≤ most := by
  rw [tables_take h1, List.length_take]; omega
theorem tables_some {js : List Job} {sets : List (List Int)} {most : Nat} (h1 : 1 ≤ most) (h : zeroR js ∈ (livJ js sets).getD 0 []) : tablesJ js sets most ≠ [] := by
  rw [tables_take h1]
  unfold everyJ
  have := every_some h _ (Nat.le_refl (spanN js))
  intro z
  cases e : everyP (livJ js sets) sets (zeroR js) (spanN js) with
  | nil => exact this e
  | cons x l =>
    rw [e] at z
    cases most with
    | zero => omega
    | succ k => cases z
/-! ## as objects -/
abbrev tabD (rows : List (List Int)) : PyData := .tuple (rows.map rowD)
/-- a part of a table: the rows and the numbers of ticks -/
def partTD (e : Part) : PyData := .tuple [tabD e.1, rowD e.2]
theorem tupD_row (r : List Int) : TupD (rowD r) := .tup fun d hd => by
  obtain ⟨i, _, rfl⟩ := List.mem_map.mp hd
  exact .int i
theorem tupD_tab (rows : List (List Int)) : TupD (tabD rows) := .tup fun d hd => by
  obtain ⟨r, _, rfl⟩ := List.mem_map.mp hd
  exact tupD_row r
theorem tupD_part (e : Part) : TupD (partTD e) := .tup fun d hd => by
  rcases List.mem_cons.mp hd with rfl | hd
  · exact tupD_tab _
  · rcases List.mem_cons.mp hd with rfl | hd
    · exact tupD_row _
    · cases hd
theorem dpa_two {K : PySem.W.Frag} {H : Hp} {vs : List V} {d1 d2 : PyData} (h : DpAll K H vs [d1, d2]) : ∃ a b, vs = [a, b] ∧ Dp K H a d1 ∧ Dp K H b d2 := by
  cases h with
  | cons a t => cases t with
    | cons b t => cases t; exact ⟨_, _, rfl, a, b⟩
/-- `_law_tables`: the first tables, up to so many; sets: the sets in their order -/
def spTablesJ (K : PySem.W.Frag) : Sp := fun vs H Q _ => ∃ (p q : Addr) (n most : Nat) (js : List Job), vs = [.ref p, .int (most : Int)] ∧ SqT K H p [.int (n : Int), .ref q] ∧ Dp K H (.ref q) (jobsD js) ∧ Good 16 js ∧ Div12 js ∧ 0 < js.length ∧ js.length ≤ 6 ∧ n ≤ 1000 ∧ 1 ≤ most ∧ most ≤ 1000 ∧
  ∀ (l : Addr) (ys : List V) (sets : List (List Int)) (H' : Hp), SrtO.Srtd HT.lexLt sets → SrtO.Stb HT.lexLt sets (setsL js.length n) → H l = none → Same H H' → H' l = some (.lst ys) → DpAll K H' ys ((tablesJ js sets most).map tabD) → Q (.ref l) H'
end Ts
namespace Ts
open PySem PySem.Spec PyProof.Rows L2
/-! ## drawn lots that fit -/
theorem need_sumF (s : Nat) : ∀ (l : List Job), (∀ j ∈ l, j.2.2 ∣ 12) → (∀ j ∈ l, j.2.2 ∣ s) → (∀ j ∈ l, 0 < j.2.2) → (l.map fun j => 12 * j.2.1 / j.2.2).sum * s = 12 * partsN l s
  | [], _, _, _ => by simp [partsN]
  | j :: l, h1, h2, h3 => by
    have ih := need_sumF s l (fun x hx => h1 x (List.mem_cons_of_mem _ hx)) (fun x hx => h2 x (List.mem_cons_of_mem _ hx)) fun x hx => h3 x (List.mem_cons_of_mem _ hx)
    obtain ⟨a, ha⟩ := h1 j List.mem_cons_self
    obtain ⟨b, hb⟩ := h2 j List.mem_cons_self
    have hp := h3 j List.mem_cons_self
    have e1 : 12 * j.2.1 / j.2.2 = a * j.2.1 := by rw [ha, Nat.mul_assoc]; exact Nat.mul_div_cancel_left _ hp
    have e2 : s / j.2.2 = b := by rw [hb]; exact Nat.mul_div_cancel_left _ hp
    have e3 : partsN (j :: l) s = j.2.1 * (s / j.2.2) + partsN l s := by simp [partsN]
    rw [List.map_cons, List.sum_cons, Nat.add_mul, ih, e1, e3, e2, Nat.mul_add]
    congr 1
    rw [ha, hb]
    simp only [Nat.mul_assoc, Nat.mul_comm, Nat.mul_left_comm]
theorem need_fitsF {js : List Job} (G : Good 16 js) (D : Div12 js) (n : Nat) : (12 * n < (js.map fun j => 12 * j.2.1 / j.2.2).sum) ↔ ¬ partsN js (spanN js) ≤ n * spanN js := by
  have e := need_sumF (spanN js) js D (fun j hj => dvd_span hj) (good_pos G)
  have s0 := span_pos G
  generalize (js.map fun j => 12 * j.2.1 / j.2.2).sum = N at e ⊢
  rw [Nat.not_le]
  constructor
  · intro h
    have : 12 * n * spanN js < N * spanN js := Nat.mul_lt_mul_of_pos_right h s0
    rw [e, Nat.mul_assoc] at this
    omega
  · intro h
    have : 12 * n * spanN js < N * spanN js := by rw [e, Nat.mul_assoc]; omega
    exact Nat.lt_of_mul_lt_mul_right this
/-- a drawn lot whose shares sum to no more than its hands -/
def spFitJ (K : PySem.W.Frag) : Sp := fun vs H Q _ => ∃ (b : Addr) (m : Nat), vs = [.ref b, .int (m : Int)] ∧ Bas H b ∧ 1 ≤ m ∧ m ≤ 4 ∧
  ∀ (n : Nat) (js : List Job) (p q : Addr) (H' : Hp), 1 ≤ n → n ≤ 6 → 0 < js.length → js.length ≤ m → Good 16 js → Div12 js → partsN js (spanN js) ≤ n * spanN js → But b H H' → Bas H' b → H p = none → H' p = some (.tup [.int (n : Int), .ref q]) → Dp K (hid b H') (.ref q) (jobsD js) → Q (.ref p) H'
end Ts
namespace Ts
open PySem PySem.Spec PyProof.Rows L2 L2H LamX
/-! ## the classes of errors that `_law_sort` tells apart -/
structure Cls9 where
  (l u n r s t a c y : Addr)
abbrev Cls9.list (c : Cls9) : List Addr := [c.l, c.u, c.n, c.r, c.s, c.t, c.a, c.c, c.y]
/-! ## a call that is caught -/
end Ts
namespace Ts
open PySem PySem.Spec PyProof.Rows L2 L2H LamX
/-! ## values that are surely equal, whatever lies in them: the same object, or alike ones -/
mutual
inductive EqV (K : PySem.W.Frag) (H : Hp) : Nat → V → V → Prop
  | ref {n : Nat} (a : Addr) : EqV K H n (.ref a) (.ref a)
  | non {n : Nat} : EqV K H n .non .non
  | bl {n : Nat} (b : Bool) : EqV K H n (.bl b) (.bl b)
  | int {n : Nat} (i : Int) : EqV K H n (.int i) (.int i)
  | str {n : Nat} (t : Str) : EqV K H n (.str t) (.str t)
  | tup {n : Nat} {a b : Addr} {xs ys : List V} : SqT K H a xs → SqT K H b ys → EqVs K H n xs ys → EqV K H (n + 1) (.ref a) (.ref b)
  | lst {n : Nat} {a b : Addr} {xs ys : List V} : SqL K H a xs → SqL K H b ys → EqVs K H n xs ys → EqV K H (n + 1) (.ref a) (.ref b)
inductive EqVs (K : PySem.W.Frag) (H : Hp) : Nat → List V → List V → Prop
  | nil {n : Nat} : EqVs K H n [] []
  | cons {n : Nat} {x y : V} {xs ys : List V} : EqV K H n x y → EqVs K H n xs ys → EqVs K H n (x :: xs) (y :: ys)
end
theorem EqVs.length {K : PySem.W.Frag} {H : Hp} {n : Nat} : ∀ {xs ys : List V}, EqVs K H n xs ys → xs.length = ys.length
  | _, _, .nil => rfl
  | _, _, .cons _ t => by rw [List.length_cons, List.length_cons, EqVs.length t]
theorem EqVs.get {K : PySem.W.Frag} {H : Hp} {n : Nat} : ∀ {xs ys : List V} {j : Nat} {x y : V}, EqVs K H n xs ys → xs[j]? = some x → ys[j]? = some y → EqV K H n x y
  | _, _, 0, _, _, .cons h _, e, f => by cases e; cases f; exact h
  | _, _, j + 1, _, _, .cons _ t, e, f => EqVs.get (j := j) t e f
  | _, _, _, _, _, .nil, e, _ => by simp at e
/-- of scalars and of one object -/
theorem EqV.refl {K : PySem.W.Frag} {H : Hp} {n : Nat} {v : V} (h : (∃ a, v = .ref a) ∨ v = .non ∨ (∃ b, v = .bl b) ∨ (∃ i, v = .int i) ∨ ∃ t, v = .str t) : EqV K H n v v := by
  rcases h with ⟨a, rfl⟩ | rfl | ⟨b, rfl⟩ | ⟨i, rfl⟩ | ⟨t, rfl⟩
  · exact .ref a
  · exact .non
  · exact .bl b
  · exact .int i
  · exact .str t
/-! ## a tuple of one, so many times -/
end Ts
namespace Ts
open PySem PySem.Spec PyProof.Rows L2 L2H LamX
/-! ## what is never come to -/
/-! ## questions that are refused -/
/-! ## lists of what was caught -/
def Flat (v : V) : Prop := (∃ a, v = .ref a) ∨ v = .non ∨ (∃ b, v = .bl b) ∨ (∃ i, v = .int i) ∨ ∃ t, v = .str t
inductive PairsV (H : Hp) : List V → List (Str × V) → Prop
  | nil : PairsV H [] []
  | cons {x : V} {w : Str × V} {xs : List V} {ws : List (Str × V)} : (∃ p, x = .ref p ∧ H p = some (.tup [.str w.1, w.2])) → PairsV H xs ws → PairsV H (x :: xs) (w :: ws)
theorem PairsV.imp {H H' : Hp} (h : ∀ p vs, H p = some (.tup vs) → H' p = some (.tup vs)) : ∀ {xs : List V} {ws : List (Str × V)}, PairsV H xs ws → PairsV H' xs ws
  | _, _, .nil => .nil
  | _, _, .cons ⟨p, e, hp⟩ t => .cons ⟨p, e, h _ _ hp⟩ (t.imp h)
theorem PairsV.ext {H H' : Hp} {xs : List V} {ws : List (Str × V)} (h : PairsV H xs ws) (x : ExtN H H') : PairsV H' xs ws := h.imp fun _ _ e => x _ _ e fun _ z => by cases z
theorem PairsV.mono {H H' : Hp} {xs : List V} {ws : List (Str × V)} (h : PairsV H xs ws) (x : Same H H') : PairsV H' xs ws := h.imp fun _ _ e => x _ _ e
theorem PairsV.snoc {H : Hp} {x : V} {w : Str × V} (hx : ∃ p, x = .ref p ∧ H p = some (.tup [.str w.1, w.2])) : ∀ {xs : List V} {ws : List (Str × V)}, PairsV H xs ws → PairsV H (xs ++ [x]) (ws ++ [w])
  | _, _, .nil => .cons hx .nil
  | _, _, .cons h t => .cons h (t.snoc hx)
theorem PairsV.length {H : Hp} : ∀ {xs : List V} {ws : List (Str × V)}, PairsV H xs ws → xs.length = ws.length
  | _, _, .nil => rfl
  | _, _, .cons _ t => by rw [List.length_cons, List.length_cons, t.length]
theorem PairsV.take {H : Hp} : ∀ (n : Nat) {xs : List V} {ws : List (Str × V)}, PairsV H xs ws → PairsV H (xs.take n) (ws.take n)
  | 0, _, _, _ => .nil
  | _ + 1, _, _, .nil => .nil
  | n + 1, _, _, .cons h t => .cons h (t.take n)
theorem PairsV.get {H : Hp} : ∀ {xs : List V} {ws : List (Str × V)} {i : Nat} {w : Str × V}, PairsV H xs ws → ws[i]? = some w → ∃ p, xs[i]? = some (.ref p) ∧ H p = some (.tup [.str w.1, w.2])
  | _, _, 0, _, .cons ⟨p, e, h⟩ _, z => by cases z; exact ⟨p, congrArg some e, h⟩
  | _, _, i + 1, _, .cons _ t, z => t.get (i := i) z
  | _, _, _, _, .nil, z => by simp at z
/-! ## what the law asks -/
/-! ## what stays whatever is drawn or caught -/
structure St34 (K : PySem.W.Frag) (C b x : Addr) (n : Nat) (js : List Job) (v : V) (H : Hp) : Prop where
  B : Bas H b
  L : LotAt K C (hid2 b H) x n js
  N : NoLot K (hid2 b H) v
theorem St34.step {K : PySem.W.Frag} {C b x : Addr} {n : Nat} {js : List Job} {v : V} {H H' : Hp} (h : St34 K C b x n js v H) (e : Ext2 b H H') (B : Bas H' b) : St34 K C b x n js v H' := ⟨B, h.L.mono e.hid, h.N.mono e.hid⟩
theorem St34.same {K : PySem.W.Frag} {C b x : Addr} {n : Nat} {js : List Job} {v : V} {H H' : Hp} (h : St34 K C b x n js v H) (s : Same H H') : St34 K C b x n js v H' := h.step (Ext2.same s) (h.B.on s)
theorem St34.ext {K : PySem.W.Frag} {C b x : Addr} {n : Nat} {js : List Job} {v : V} {H H' : Hp} (h : St34 K C b x n js v H) (s : ExtN H H') : St34 K C b x n js v H' := h.step (Ext2.ext s) (h.B.ext s)
def Bad34 (K : PySem.W.Frag) (H : Hp) (js : List Job) (v : V) : Prop := ∃ o, AnyV K H v o ∧ stB js 0 o = false ∧ Flat v
theorem Bad34.mono {K : PySem.W.Frag} {H H' : Hp} {js : List Job} {v : V} (h : Bad34 K H js v) (s : Same H H') : Bad34 K H' js v := by
  obtain ⟨o, h1, h2, h3⟩ := h
  exact ⟨o, h1.mono s, h2, h3⟩
theorem Bad34.ext {K : PySem.W.Frag} {H H' : Hp} {js : List Job} {v : V} (h : Bad34 K H js v) (s : ExtN H H') : Bad34 K H' js v := by
  obtain ⟨o, h1, h2, h3⟩ := h
  exact ⟨o, h1.ext s, h2, h3⟩
end Ts
namespace Ts
open PySem PySem.Spec PyProof.Rows L2 LamX
/-! ## the head by facts: defs where they stand, one Bool of facts, tables of code -/
structure DefF where
  adr : PySem.W.Frag → Addr
  name : Str
  qual : Str
  st : Stmt
def DefF.said (d : DefF) : He.FnV := some (d.name, d.qual, defArgs d.st, .stmts (defBody d.st), defScope d.st, mainGlobals, [], .none, builtinsNs)
def seenF (K : PySem.W.Frag) (a : Addr) : He.FnV := match K.lookup a with
  | some o => (match o.data with
    | .func fd => some (fd.name, fd.qualname, fd.params, fd.body, fd.scope, fd.globals, fd.closure, fd.defaults, fd.builtins)
    | _ => none)
  | none => none
def codeF (K : PySem.W.Frag) (a : Addr) (q : Str) : Bool := match K.lookup a with
  | some o => (match o.data with
    | .func fd => PySem.W.codeIn K fd.code q
    | _ => false)
  | none => false
theorem defF_ok {K : PySem.W.Frag} {d : DefF} (e : seenF K (d.adr K) = d.said) (c : codeF K (d.adr K) d.qual = true) :
    ∃ (oc : Value) (od : Option Addr) (sl : Array (Option Value)) (kV dc pm : Value) (an : Option Addr) (cd ct : Value), K.lookup (d.adr K) = some ⟨oc, od, .func (PySem.W.fnOf d.name d.qual (defArgs d.st) (defBody d.st) (defScope d.st) .none kV dc pm an cd ct), sl⟩ ∧ PySem.W.codeIn K cd d.qual = true := by
  unfold seenF at e
  unfold codeF at c
  cases hl : K.lookup (d.adr K) with
  | none => rw [hl] at c; cases c
  | some o =>
    obtain ⟨oc, od, dt, sl⟩ := o
    rw [hl] at c e
    cases dt with
    | func fd =>
      obtain ⟨m1, m2, m3, m4, m5, m6, m7, m8, m9, p1, p2, p3, p4, p5, p6⟩ := fd
      have e9 : (some (m1, m2, m3, m4, m5, m6, m7, m8, p6) : He.FnV) = some (d.name, d.qual, defArgs d.st, .stmts (defBody d.st), defScope d.st, mainGlobals, [], .none, builtinsNs) := e
      simp only [Option.some.injEq, Prod.mk.injEq] at e9
      obtain ⟨rfl, rfl, rfl, rfl, rfl, rfl, rfl, rfl, rfl⟩ := e9
      exact ⟨oc, od, sl, m9, p1, p2, p3, p4, p5, rfl, c⟩
    | _ => cases c
/-- the token of a number or a text of the top -/
def tokAd (K : PySem.W.Frag) (x : Str) : Tok := match PySem.W.nsIn K mainGlobals x with
  | some (some (.int _ t)) => t
  | some (some (.str _ t)) => t
  | _ => default
/-- what a property's object was made of -/
def getAd (K : PySem.W.Frag) (p : Addr) : Addr := match PySem.W.recIn K p "property" with
  | some (.ref f :: _) => f
  | _ => 0
def restAd (K : PySem.W.Frag) (p : Addr) : List Value := match PySem.W.recIn K p "property" with
  | some (_ :: r) => r
  | _ => []
abbrev AlF : Type := Bool × List He.FnV
def okF (fn : List DefF) (tf : List (PySem.W.Frag → Addr × Addr)) (ex : PySem.W.Frag → Bool) (g : Addr → Option Obj) (K : PySem.W.Frag) : Bool :=
  (fn.all fun d => codeF K (d.adr K) d.qual) && (ex K && tf.all fun p => PySem.W.codeHdIn K (p K).1 (p K).2 && (match g (p K).2 with
    | some o => He.emptyTab o
    | none => false))
def lookF (fn : List DefF) (tf : List (PySem.W.Frag → Addr × Addr)) (ex : PySem.W.Frag → Bool) (g : Addr → Option Obj) (K : PySem.W.Frag) : AlF := (okF fn tf ex g K, fn.map fun d => seenF K (d.adr K))
def dueF (fn : List DefF) : AlF := (true, fn.map DefF.said)
structure SaysF (fn : List DefF) (tf : List (PySem.W.Frag → Addr × Addr)) (ex : PySem.W.Frag → Bool) (h : Heap) (K : PySem.W.Frag) : Prop where
  fns : fn.map (fun d => seenF K (d.adr K)) = fn.map DefF.said
  codes : ∀ d ∈ fn, codeF K (d.adr K) d.qual = true
  more : ex K = true
  heads : ∀ p ∈ tf, PySem.W.codeHdIn K (p K).1 (p K).2 = true
  outs : ∀ p ∈ tf, K.lookup (p K).2 = none
  empties : ∀ p ∈ tf, h.get? (p K).2 = some { cls := .none, data := .fields #[] }
theorem SaysF.def_ {fn : List DefF} {tf : List (PySem.W.Frag → Addr × Addr)} {ex : PySem.W.Frag → Bool} {h : Heap} {K : PySem.W.Frag} (S : SaysF fn tf ex h K) (i : Nat) {d : DefF} (hi : fn[i]? = some d := by rfl) :
    ∃ (oc : Value) (od : Option Addr) (sl : Array (Option Value)) (kV dc pm : Value) (an : Option Addr) (cd ct : Value), K.lookup (d.adr K) = some ⟨oc, od, .func (PySem.W.fnOf d.name d.qual (defArgs d.st) (defBody d.st) (defScope d.st) .none kV dc pm an cd ct), sl⟩ ∧ PySem.W.codeIn K cd d.qual = true := by
  have e : (fn.map fun d => seenF K (d.adr K))[i]? = (fn.map DefF.said)[i]? := by rw [S.fns]
  rw [List.getElem?_map, List.getElem?_map, hi] at e
  exact defF_ok (Option.some.inj e) (S.codes d (List.mem_of_getElem? hi))
theorem saysF_of {as : List Addr} {fn : List DefF} {tf : List (PySem.W.Frag → Addr × Addr)} {ex : PySem.W.Frag → Bool} {h : Heap} (e : lookF fn tf ex h.get? (He.frT h.get? as) = dueF fn) : SaysF fn tf ex h (He.frT h.get? as) := by
  have e1 := (Prod.mk.inj e).1
  have e2 := (Prod.mk.inj e).2
  unfold okF at e1
  obtain ⟨z1, z2⟩ := He.ba e1
  obtain ⟨z3, z4⟩ := He.ba z2
  have key : ∀ p ∈ tf, PySem.W.codeHdIn (He.frT h.get? as) (p (He.frT h.get? as)).1 (p (He.frT h.get? as)).2 = true ∧
      ∃ o, h.get? (p (He.frT h.get? as)).2 = some o ∧ He.emptyTab o = true := fun p hp => by
    obtain ⟨y1, y2⟩ := He.ba (List.all_eq_true.mp z4 p hp)
    refine ⟨y1, ?_⟩
    cases q : h.get? (p (He.frT h.get? as)).2 with
    | none => rw [q] at y2; cases y2
    | some o => rw [q] at y2; exact ⟨o, rfl, y2⟩
  exact ⟨e2, fun d hd => List.all_eq_true.mp z1 d hd, z3, fun p hp => (key p hp).1,
    fun p hp => let ⟨_, _, q, z⟩ := key p hp; He.frT_none q z,
    fun p hp => let ⟨_, _, q, z⟩ := key p hp; by rw [q, He.emptyTab_eq z]⟩
def hookF (as : List Addr) (fn : List DefF) (tf : List (PySem.W.Frag → Addr × Addr)) (ex : PySem.W.Frag → Bool) : PySem.W.Hook where
  α := AlF
  obs := fun s => lookF fn tf ex s.heap.get? (He.frT s.heap.get? as)
  val := fun _ => dueF fn
  says := fun _ h => ∃ K : PySem.W.Frag, K.In h ∧ SaysF fn tf ex h K
  of := fun _ _ e => ⟨_, He.frT_in, saysF_of e⟩
  keeps := fun _ _ _ ⟨K, hK, c⟩ k => ⟨K, PySem.W.Frag.In.keeps hK k, ⟨c.fns, c.codes, c.more, c.heads, c.outs, fun p hp => k _ _ (c.empties p hp)⟩⟩
def viewF (as : List Addr) (fn : List DefF) (tf : List (PySem.W.Frag → Addr × Addr)) (ex : PySem.W.Frag → Bool) (g : Addr → Option Obj) : AlF := lookF fn tf ex g (He.frT g as)
theorem viewF_eq {as : List Addr} {fn : List DefF} {tf : List (PySem.W.Frag → Addr × Addr)} {ex : PySem.W.Frag → Bool} (s : PySem.W.SharedT) : viewF as fn tf ex (HandSHeadRun.getT s) = (hookF as fn tf ex).obs s.abs := by
  have e : HandSHeadRun.getT s = s.abs.heap.get? := funext (HandSHeadRun.getT_eq s)
  show lookF fn tf ex (HandSHeadRun.getT s) (He.frT (HandSHeadRun.getT s) as) = lookF fn tf ex s.abs.heap.get? (He.frT s.abs.heap.get? as)
  rw [e]
/-- the run of the top by the library's twins -/
noncomputable abbrev topF (r : PySem.W.OpenRow) (M : Nat) (w : World) : Option (Shared × PySem.W.SharedT) := HandSHeadRun.wholeF (fun p => HandSHeadRun.stepQ (HandSHeadRun.denQ HandSHeadRun.tabQ) p w) HandSHeadRun.fenceQ M r.prog
/-- its equation, asked in two parts -/
theorem run_two {r : PySem.W.OpenRow} {q : Program} {H : PySem.W.Hook} {ob : PySem.W.SharedT → H.α} {M : Nat} {loose : List Str} {w : World}
    (h1 : (topF r M w).map (fun x => (HandSHeadRun.looksF r.prog x.1.heap x.2.abs, HandSHeadRun.seenQ q loose (importedModules r.prog.main.body) (fun s => PySem.W.xlAt q [] s && PySem.W.recOk r.toRowW.records s) x.2.abs)) = some (true, PySem.W.openGood q loose))
    (h2 : (topF r M w).map (fun x => ob x.2) = some (H.val w)) : HandSHeadRun.RunEqI r q H ob M loose w := by
  show (topF r M w).map _ = _
  revert h1 h2
  generalize topF r M w = o
  intro h1 h2
  cases o with
  | none => cases h1
  | some x =>
    have a := Prod.mk.inj (Option.some.inj h1)
    have b := Option.some.inj h2
    exact congrArg some (Prod.ext a.1 (Prod.ext a.2 b))
/-! ### the law is called, over such a head -/
theorem walk_GF {l : PySem.W.OpenLaw} {k : Nat} {q : Program} {loose : List Str} {XP : (Str → Option Value) → Heap → Prop} {YP : World → Heap → Prop} {d : DefRec} {x : Str}
    (most : l.most = some 63) (plain : d.params.defaults = []) (room : Room k callerA)
    (F : ∀ (w : World) (mg : Str → Option Value) (fa : Addr) (h : Heap), YP w h → h.Ns mainGlobals mg → mg d.name = some (.ref fa) →
      ∃ (K : PySem.W.Frag) (fd : FuncData), K.In h ∧ (∀ (s : Shared) (u : Value), BindsTo s fd ⟨[u], []⟩ [(x, u)]) ∧ ∀ base : Heap, FnG l.prog w K mg base k fa fd [x] (spLaw K)) :
    PySem.W.WalkO q loose XP YP l.row.toRowW d [] (fun f vs => PySem.call f vs) := by
  refine Att.attach_call most plain fun w s t mg mb fa o pm cd doc a vs ns G Y ho hd hcd hmg hobj hints hlen hg => ?_
  obtain ⟨K, fd, inK, bind, hF⟩ := F w mg fa _ Y G.T.g hmg
  exact end_G inK G.T.g G.T.b G.T.builtins G.T.nolimit hg hobj hints (Nat.le_trans hlen (by decide)) room (fun base _ _ => hF base) bind fun H hS => ⟨a, ns, rfl, hS, hlen, fun _ => rfl⟩
end Ts
namespace Ts
open PySem PySem.Spec PyProof.Rows L2 LamX
/-! ## the head by facts, with tables of the top (dicts with text keys) -/
def TabsW (ts : List He.Tab) (w : World) (K : PySem.W.Frag) : Prop := (ts.map fun t => He.dicW K (t.1 K)) = ts.map fun t => some (He.keysIn w.params t.2)
theorem TabsW.dict {ts : List He.Tab} {w : World} {K : PySem.W.Frag} (c : TabsW ts w K) (i : Nat) {t : He.Tab} (h : ts[i]? = some t := by rfl) : ∃ es n, KDict K w (t.1 K) es n := by
  have e2 : (ts.map fun t => He.dicW K (t.1 K))[i]? = (ts.map fun t => some (He.keysIn w.params t.2))[i]? := by rw [c]
  rw [List.getElem?_map, List.getElem?_map, h] at e2
  exact He.dicW_ok (Option.some.inj e2)
/-! ## a tuple of texts of the top -/
end Ts
namespace Ts
open PySem PySem.Spec PyProof.Rows L2 L2H LamX
/-! ## a range object that a name holds, walked -/
/-! ## zip of two tuples -/
/-! ## what a rule goes by -/
def ruleW : List Str := ["nearest", "overlap", "keen", "behind"]
def rankI (r e p span : Nat) (t m : Int) : List Int := match r with
  | 0 => [borI e p t - m]
  | 1 => [borI e p t - m, if overI e p t = true then 0 else 1]
  | 2 => if overI e p t = true then [borI e p t - m, 0, if 0 < gborI e p t then m - gborI e p t else 0] else [borI e p t - m, 1, 0]
  | _ => [(t - 1) * (span : Int) - (m + 1) * (e : Int) * ((span / p : Nat) : Int)]
/-- turn i + 1 in its ticks -/
def ticksL (r e p span i : Nat) : List (List Int) := (List.range (borI e p ((i : Int) + 1) - begI e p ((i : Int) + 1)).toNat).map fun k : Nat => rankI r e p span ((i : Int) + 1) (begI e p ((i : Int) + 1) + (k : Int))
def lensL (e p : Nat) : List Int := (List.range e).map fun i : Nat => borI e p ((i : Int) + 1) - begI e p ((i : Int) + 1)
def gapsL (e p : Nat) : List Int := (List.range e).map fun i : Nat => begI e p ((i : Int) + 1 + 1) - begI e p ((i : Int) + 1)
def ranksD (r e p span : Nat) : PyData := .list ((List.range e).map fun i : Nat => .list ((ticksL r e p span i).map rowD))
structure PaceAt (K : PySem.W.Frag) (C : Addr) (H : Hp) (a : Addr) (r e p span : Nat) : Prop where
  ex : ∃ dx fs, H a = some (.ins C dx fs) ∧ (∃ q, fs.lookup ("lengths" : Str) = some (.ref q) ∧ SqL K H q ((lensL e p).map V.int)) ∧ (∃ q, fs.lookup ("gaps" : Str) = some (.ref q) ∧ SqL K H q ((gapsL e p).map V.int)) ∧
    (∃ v, fs.lookup ("ranks" : Str) = some v ∧ Dp K H v (ranksD r e p span)) ∧ fs.lookup ("place_behind" : Str) = none
theorem PaceAt.mono {K : PySem.W.Frag} {C : Addr} {H H' : Hp} {a : Addr} {r e p span : Nat} (h : PaceAt K C H a r e p span) (s : Same H H') : PaceAt K C H' a r e p span := by
  obtain ⟨dx, fs, h1, ⟨q1, h2, h3⟩, ⟨q2, h4, h5⟩, ⟨v, h6, h7⟩, h8⟩ := h.ex
  exact ⟨dx, fs, s _ _ h1, ⟨q1, h2, s.seq h3⟩, ⟨q2, h4, s.seq h5⟩, ⟨v, h6, h7.mono s⟩, h8⟩
/-- the paces of the works of a lot -/
def PacesAt (K : PySem.W.Frag) (C : Addr) (H : Hp) (xs : List V) (r : Nat) (js : List Job) (span : Nat) : Prop := xs.length = js.length ∧ ∀ (i : Nat) (x : V) (j : Job), xs[i]? = some x → js[i]? = some j → ∃ a, x = .ref a ∧ PaceAt K C H a r j.2.1 j.2.2 span
theorem PacesAt.mono {K : PySem.W.Frag} {C : Addr} {H H' : Hp} {xs : List V} {r span : Nat} {js : List Job} (h : PacesAt K C H xs r js span) (s : Same H H') : PacesAt K C H' xs r js span := ⟨h.1, fun i x j h1 h2 => by
  obtain ⟨a, e, h3⟩ := h.2 i x j h1 h2
  exact ⟨a, e, h3.mono s⟩⟩
/-! ## who is due, in order -/
/-- for each work: its place and for how many ticks its turn has begun -/
def dueK (r span : Nat) : List Job → List (Int × Int) → Nat → List (List Int × Nat)
  | j :: js, (pl, si) :: ss, k => (if 0 ≤ si then [(rankI r j.2.1 j.2.2 span (pl + 1) (begI j.2.1 j.2.2 (pl + 1) + si), k)] else []) ++ dueK r span js ss (k + 1)
  | _, _, _ => []
def dueD (x : List Int × Nat) : PyData := .tuple [rowD x.1, .int (x.2 : Int)]
def atD : PyData → Int
  | .tuple [_, .int i] => i
  | _ => 0
def ordL (l : List (List Int × Nat)) : List Int := ((l.map dueD).mergeSort (PySem.W.dataLe false id)).map atD
def standD (s : Int × Int) : PyData := .tuple [.int s.1, .int s.2]
/-! ## a tuple of texts of the top -/
/-! ## a rule, or none -/
def RuleV (K : PySem.W.Frag) (H : Hp) (x : V) : Option Nat → Prop
  | some r => ∃ s, x = .str s ∧ ruleW[r]? = some s
  | none => (∃ s, x = .str s ∧ ¬ s ∈ ruleW) ∨ ∃ T, T ∈ ["int", "bool", "NoneType", "list", "tuple", "dict"] ∧ TyX K H x (.type T)
theorem RuleV.mono {K : PySem.W.Frag} {H H' : Hp} {x : V} {o : Option Nat} (h : RuleV K H x o) (s : Same H H') : RuleV K H' x o := by
  cases o with
  | some r => exact h
  | none =>
    rcases h with h | ⟨T, h1, h2⟩
    · exact .inl h
    · exact .inr ⟨T, h1, TyX.mono h2 s⟩
theorem RuleV.ext {K : PySem.W.Frag} {H H' : Hp} {x : V} {o : Option Nat} (h : RuleV K H x o) (s : ExtN H H') : RuleV K H' x o := by
  cases o with
  | some r => exact h
  | none =>
    rcases h with h | ⟨T, h1, h2⟩
    · exact .inl h
    · exact .inr ⟨T, h1, TyX.ext h2 s⟩
/-! ## the order that a rule puts -/
def standsL : List Job → List Int → Int → List (Int × Int)
  | j :: js, m :: ms, z => (m % (j.2.1 : Int), z - begI j.2.1 j.2.2 (m + 1)) :: standsL js ms z
  | _, _, _ => []
end Ts
namespace Ts
open PySem PySem.Spec PyProof.Rows L2
/-! ## a rule followed tick by tick -/
abbrev j0 : Job := ("", 1, 1)
abbrev jAt (js : List Job) (k : Nat) : Job := js.getD k j0
/-! ## where works stand, step by step -/
theorem getD_of {α : Type} {l : List α} {k : Nat} {x d : α} (h : l[k]? = some x) : l.getD k d = x := by
  rw [List.getD_eq_getElem?_getD, h]; rfl
/-! ## what is asked -/
def LostV (H : Hp) (js : List Job) (v : V) : Option (Int × Nat × Int) → Prop
  | none => v = .non
  | some (m, k, t) => ∃ (q : Addr), k < js.length ∧ v = .ref q ∧ H q = some (.tup [.int m, .str (jAt js k).1, .int t])
/-! ## lists of tuples while other lists change -/
def Tups (H H' : Hp) : Prop := ∀ a xs, H a = some (.tup xs) → H' a = some (.tup xs)
theorem Tups.of {H H' : Hp} (s : Same H H') : Tups H H' := fun a xs e => s _ _ e
theorem Tups.trans {H H1 H2 : Hp} (a : Tups H H1) (b : Tups H1 H2) : Tups H H2 := fun c xs e => b _ _ (a _ _ e)
theorem Tups.put {H : Hp} {a : Addr} {l : List V} {o : HO} (h : H a = some (.lst l)) : Tups H (upd H a o) := fun c xs e => by
  rw [upd_ne (fun z => by rw [z, h] at e; cases e)]; exact e
def StV (H : Hp) (sv : List V) (ss : List (Int × Int)) : Prop := sv.length = ss.length ∧ ∀ (i : Nat) (s : Int × Int), ss[i]? = some s → ∃ q, sv[i]? = some (.ref q) ∧ H q = some (.tup [.int s.1, .int s.2])
theorem dpa_of_get {K : PySem.W.Frag} {H : Hp} : ∀ {xs : List V} {ds : List PyData}, xs.length = ds.length → (∀ (i : Nat) (x : V) (d : PyData), xs[i]? = some x → ds[i]? = some d → Dp K H x d) → DpAll K H xs ds
  | [], [], _, _ => .nil
  | x :: xs, d :: ds, h, g => .cons (g 0 x d rfl rfl) (dpa_of_get (by simpa using h) fun i x d e f => g (i + 1) x d e f)
  | [], _ :: _, h, _ => by simp at h
  | _ :: _, [], h, _ => by simp at h
theorem StV.dp {K : PySem.W.Frag} {H : Hp} {sv : List V} {ss : List (Int × Int)} (h : StV H sv ss) : DpAll K H sv (ss.map standD) := dpa_of_get (by rw [List.length_map]; exact h.1) fun i x d e f => by
  rw [List.getElem?_map] at f
  cases es : ss[i]? with
  | none => rw [es] at f; cases f
  | some s =>
    rw [es] at f
    cases Option.some.inj f
    obtain ⟨q, e1, e2⟩ := h.2 i s es
    rw [e] at e1
    cases Option.some.inj e1
    exact .tup (SqT.of e2) (.cons (.int _) (.cons (.int _) .nil))
/-! ## a rule in a round -/
end Ts
namespace Ts
open PySem PySem.Spec PyProof.Rows L2 L2H LamX
/-! ## rules asked wrongly -/
def W3 (H' : Hp) (v x t u : V) (o : Option (Nat × List Job)) (ro : Option Nat) (k : Option Int) (d : Option PyData) (w : Str × V) : Prop := match o with
  | none => w = (("NotALot" : Str), v)
  | some (_, js) => match ro with
    | none => w = (("InvalidRule" : Str), x)
    | some r => (inRg k 0 (10 ^ 30) = false → w = (("InvalidNumber" : Str), t)) ∧
        ∀ z, k = some z → inRg k 0 (10 ^ 30) = true → (stB js z d = false → w = (("InvalidStanding" : Str), u)) ∧ (stB js z d = true → ∀ had, d = some (rowD had) → ∃ p, w = (("let" : Str), V.ref p) ∧ H' p = some (.tup ((ordL (dueK r (spanN js) js (standsL js had z) 0)).map V.int)))
theorem W3.ext {H H' : Hp} {v x t u : V} {o : Option (Nat × List Job)} {ro : Option Nat} {k : Option Int} {d : Option PyData} {w : Str × V} (h : W3 H v x t u o ro k d w) (s : Tups H H') : W3 H' v x t u o ro k d w := by
  unfold W3 at h ⊢
  split
  · exact h
  · dsimp only at h
    split
    · exact h
    · dsimp only at h
      refine ⟨h.1, fun z e1 e2 => ⟨(h.2 z e1 e2).1, fun e3 had e4 => ?_⟩⟩
      obtain ⟨p, e5, e6⟩ := (h.2 z e1 e2).2 e3 had e4
      exact ⟨p, e5, s _ _ e6⟩
end Ts
namespace Ts
open PySem PySem.Spec PyProof.Rows L2
/-! ## a rule that misses nothing makes a right table -/
theorem asc_eq : ∀ {a b : List Int}, a.Pairwise (· < ·) → b.Pairwise (· < ·) → (∀ x, x ∈ a ↔ x ∈ b) → a = b
  | [], [], _, _, _ => rfl
  | [], y :: b, _, _, h => by have := (h y).mpr List.mem_cons_self; cases this
  | x :: a, [], _, _, h => by have := (h x).mp List.mem_cons_self; cases this
  | x :: a, y :: b, ha, hb, h => by
    obtain ⟨a1, a2⟩ := List.pairwise_cons.mp ha
    obtain ⟨b1, b2⟩ := List.pairwise_cons.mp hb
    have e : x = y := by
      rcases List.mem_cons.mp ((h x).mp List.mem_cons_self) with z | z
      · exact z
      · rcases List.mem_cons.mp ((h y).mpr List.mem_cons_self) with u | u
        · exact u.symm
        · have := b1 x z; have := a1 y u; omega
    subst e
    congr 1
    refine asc_eq a2 b2 fun z => ⟨fun hz => ?_, fun hz => ?_⟩
    · rcases List.mem_cons.mp ((h z).mp (List.mem_cons_of_mem _ hz)) with u | u
      · have := a1 z hz; omega
      · exact u
    · rcases List.mem_cons.mp ((h z).mpr (List.mem_cons_of_mem _ hz)) with u | u
      · have := b1 z hz; omega
      · exact u
/-! ## what the law compares -/
theorem LostV.mono {H H' : Hp} {js : List Job} {v : V} {o : Option (Int × Nat × Int)} (h : LostV H js v o) (s : Same H H') : LostV H' js v o := by
  match o, h with
  | none, h => exact h
  | some (m, k, t), ⟨q, a, b, e⟩ => exact ⟨q, a, b, s _ _ e⟩
end Ts
namespace Ts
open PySem PySem.Spec PyProof.Rows L2
/-! ## tables bent: any data as a table -/
def tickO : PyData → Option (List (Option Int))
  | .tuple ds => some (ds.map kindD)
  | _ => none
def tabO : PyData → TabT
  | .tuple ds => some (ds.map tickO)
  | _ => none
theorem dp_thing {K : PySem.W.Frag} {H : Hp} {v : V} {d : PyData} (h : Dp K H v d) : ThingS K H v (tickO d) := by
  cases h with
  | non => exact ⟨"NoneType", by decide, .base .non⟩
  | bl b => exact ⟨"bool", by decide, .base (.bl b)⟩
  | int i => exact ⟨"int", by decide, .base (.int i)⟩
  | str x => exact ⟨"str", by decide, .base (.str x)⟩
  | lst a b => exact ⟨"list", by decide, SqL.ty a⟩
  | @tup p xs ds a b =>
    refine ⟨p, xs, rfl, a, by rw [b.length, List.length_map], fun i x o hx ho => ?_⟩
    obtain ⟨d, hd, hv⟩ := b.get hx
    rw [List.getElem?_map, hd] at ho
    cases Option.some.inj ho
    exact dp_kind hv
theorem dp_tabP {K : PySem.W.Frag} {H : Hp} {v : V} {d : PyData} (h : Dp K H v d) : TabP K H v (tabO d) := by
  cases h with
  | non => exact ⟨"NoneType", by decide, .base .non⟩
  | bl b => exact ⟨"bool", by decide, .base (.bl b)⟩
  | int i => exact ⟨"int", by decide, .base (.int i)⟩
  | str x => exact ⟨"str", by decide, .base (.str x)⟩
  | lst a b => exact ⟨"list", by decide, SqL.ty a⟩
  | @tup p xs ds a b =>
    refine ⟨p, xs, rfl, a, by rw [b.length, List.length_map], fun i x o hx ho => ?_⟩
    obtain ⟨d, hd, hv⟩ := b.get hx
    rw [List.getElem?_map, hd] at ho
    cases Option.some.inj ho
    exact dp_thing hv
/-! ## members -/
theorem asc_is {many : Nat} : ∀ (os : List (Option Int)) (least : Nat), ascB (many : Int) os (least : Int) = true → ∃ ns : List Nat, os = ns.map (fun o : Nat => some (o : Int)) ∧ ns.Pairwise (· < ·) ∧ ∀ n ∈ ns, least ≤ n ∧ n < many
  | [], _, _ => ⟨[], rfl, .nil, fun _ z => by cases z⟩
  | o :: os, least, h => by
    have h : (inRg o (least : Int) ((many : Int) - 1) && ascB (many : Int) os (o.getD 0 + 1)) = true := h
    rw [Bool.and_eq_true] at h
    obtain ⟨i, rfl, h1, h2⟩ := inRg_is h.1
    obtain ⟨k, rfl⟩ := Int.eq_ofNat_of_zero_le (show 0 ≤ i by omega)
    have h3 : ascB (many : Int) os (((k + 1 : Nat) : Int)) = true := by
      have := h.2
      rw [show ((some (k : Int) : Option Int).getD 0 + 1) = ((k + 1 : Nat) : Int) from rfl] at this
      exact this
    obtain ⟨ns, rfl, p1, p2⟩ := asc_is os (k + 1) h3
    refine ⟨k :: ns, rfl, .cons (fun n hn => by have := (p2 n hn).1; omega) p1, fun n hn => ?_⟩
    rcases List.mem_cons.mp hn with rfl | hn
    · omega
    · have := p2 n hn; omega
theorem members_is {many n : Nat} {os : List (Option Int)} (h : membersB (many : Int) (n : Int) (some os) = true) : ∃ ss : List Bool, ss.length = many ∧ cntB ss ≤ n ∧ os = (posI ss).map some := by
  have h : (decide ((os.length : Int) ≤ (n : Int)) && ascB (many : Int) os 0) = true := h
  rw [Bool.and_eq_true] at h
  have hl := of_decide_eq_true h.1
  obtain ⟨ns, rfl, p1, p2⟩ := asc_is os 0 h.2
  have e : ns.map (fun k : Nat => (k : Int)) = posI ((List.range many).map fun k : Nat => decide (k ∈ ns)) := by
    refine asc_eq (List.Pairwise.map _ (fun a b hab => by omega) p1) ?_ fun x => ?_
    · have := posN_asc ((List.range many).map fun k : Nat => decide (k ∈ ns))
      exact List.Pairwise.map _ (fun a b hab => by omega) this
    · rw [posI_mem]
      constructor
      · intro hx
        obtain ⟨k, hk, rfl⟩ := List.mem_map.mp hx
        have kl := (p2 k hk).2
        refine ⟨k, rfl, by rw [List.length_map, List.length_range]; exact kl, getD_of ?_⟩
        rw [List.getElem?_map, List.getElem?_range kl]
        show some (decide _) = some true
        rw [decide_eq_true hk]
      · rintro ⟨i, rfl, il, h⟩
        rw [List.length_map, List.length_range] at il
        have h2 : ((List.range many).map fun k : Nat => decide (k ∈ ns)).getD i false = decide (i ∈ ns) := getD_of (by rw [List.getElem?_map, List.getElem?_range il]; rfl)
        rw [h2] at h
        exact List.mem_map.mpr ⟨i, of_decide_eq_true h, rfl⟩
  refine ⟨(List.range many).map fun k : Nat => decide (k ∈ ns), by rw [List.length_map, List.length_range], ?_, ?_⟩
  · rw [← posI_cnt, ← e, List.length_map]
    rw [List.length_map] at hl
    omega
  · rw [← e, List.map_map]; rfl
theorem kind_int29 {d : PyData} {i : Int} (h : kindD d = some i) : d = .int i := by
  unfold kindD at h
  split at h
  · cases h; rfl
  · cases h
theorem kinds_ints : ∀ {ds : List PyData} {s : List Int}, ds.map kindD = s.map some → ds = s.map PyData.int
  | [], [], _ => rfl
  | d :: ds, i :: s, h => by
    rw [List.map_cons, List.map_cons] at h
    injection h with h1 h2
    rw [kind_int29 h1, kinds_ints h2]; rfl
  | [], _ :: _, h => by cases h
  | _ :: _, [], h => by cases h
theorem tick_pass {many n : Nat} {d : PyData} (h : membersB (many : Int) (n : Int) (tickO d) = true) : ∃ ss : List Bool, ss.length = many ∧ cntB ss ≤ n ∧ d = rowD (posI ss) ∧ tickO d = some ((posI ss).map some) := by
  unfold tickO at h ⊢
  split at h
  · rename_i ds
    obtain ⟨ss, h1, h2, h3⟩ := members_is h
    exact ⟨ss, h1, h2, by rw [kinds_ints h3], by show some _ = _; rw [h3]⟩
  · cases h
theorem pass_row {many n : Nat} {ss : List Bool} (h1 : ss.length = many) (h2 : cntB ss ≤ n) : membersB (many : Int) (n : Int) (tickO (rowD (posI ss))) = true := by
  have e : tickO (rowD (posI ss)) = some ((posI ss).map some) := by
    show some (((posI ss).map PyData.int).map kindD) = _
    rw [List.map_map]; rfl
  rw [e]
  show (decide ((((posI ss).map some).length : Int) ≤ (n : Int)) && ascB (many : Int) ((posI ss).map some) 0) = true
  have e2 : (posI ss).map some = (posN ss).map fun o : Nat => some (o : Int) := by unfold posI posN; rw [List.map_map]; rfl
  rw [decide_eq_true (by rw [List.length_map, posI_cnt]; omega), e2, Bool.true_and]
  exact asc_B (posN ss) 0 (posN_asc ss) fun o ho => ⟨Nat.zero_le _, by rw [← h1]; exact posN_lt ho⟩
/-! ## ticks as they may come -/
inductive TickC : PyData → Prop
  | row (r : List Int) : TickC (rowD r)
  | odd (r : List Int) (x : PyData) (hx : x = .bool true ∨ x = .none ∨ x = .str "0") : TickC (.tuple (r.map PyData.int ++ [x]))
  | lst (r : List Int) : TickC (.list (r.map PyData.int))
  | non : TickC .none
  | zero : TickC (.int 0)
  | tru : TickC (.bool true)
  | nest : TickC (.tuple [.tuple []])
structure TickOk (d : PyData) : Prop where
  c : TickC d
  s : SeqAt.shaped d = true
  f : OkF 2000 3 d
theorem eqv_odd : ∀ {s r : List Int} {x : PyData}, PyData.eqvAll (s.map PyData.int) (r.map PyData.int ++ [x]) = true → ∃ l, s = r ++ [l] ∧ PyData.eqv (.int l) x = true
  | [], [], x, h => by simp [PyData.eqvAll] at h
  | [], _ :: _, x, h => by simp [PyData.eqvAll] at h
  | [l], [], x, h => by
    have h : PyData.eqvAll [.int l] [x] = true := h
    rw [PySem.W.eqv_all_cons, Bool.and_eq_true] at h
    exact ⟨l, rfl, h.1⟩
  | l :: m :: s, [], x, h => by
    rw [List.map_cons, List.map_nil, List.nil_append, PySem.W.eqv_all_cons, Bool.and_eq_true] at h
    have := h.2
    simp [PyData.eqvAll] at this
  | l :: s, k :: r, x, h => by
    rw [List.map_cons, List.map_cons, List.cons_append, PySem.W.eqv_all_cons, Bool.and_eq_true] at h
    obtain ⟨l', e, h2⟩ := eqv_odd (s := s) (r := r) h.2
    have e1 : l = k := by have := h.1; simp [PyData.eqv] at this; exact this
    exact ⟨l', by rw [e, e1]; rfl, h2⟩
theorem last_one : ∀ ss : List Bool, ss.length ≤ 3 → ∀ r, posI ss = r ++ [1] → r = [] ∨ r = [0] := by
  intro ss hl r e
  have h1 : (posI ss).getLast? = some 1 := by rw [e, List.getLast?_append]; rfl
  have h2 : (posI ss).dropLast = r := by rw [e, List.dropLast_concat]
  have go : ∀ a b c : Bool, ((posI [a]).getLast? = some 1 → (posI [a]).dropLast = [] ∨ (posI [a]).dropLast = [0]) ∧ ((posI [a, b]).getLast? = some 1 → (posI [a, b]).dropLast = [] ∨ (posI [a, b]).dropLast = [0]) ∧ ((posI [a, b, c]).getLast? = some 1 → (posI [a, b, c]).dropLast = [] ∨ (posI [a, b, c]).dropLast = [0]) := by decide
  rw [← h2]
  match ss, hl with
  | [], _ => cases h1
  | [a], _ => exact (go a true true).1 h1
  | [a, b], _ => exact (go a b true).2.1 h1
  | [a, b, c], _ => exact (go a b c).2.2 h1
theorem shown_odd : ∀ ss : List Bool, ss.length ≤ 3 → (rowD (posI ss)).shown ≠ (PyData.tuple [.bool true]).shown ∧ (rowD (posI ss)).shown ≠ (PyData.tuple [.int 0, .bool true]).shown := by
  intro ss hl
  have go0 : (rowD (posI [])).shown ≠ (PyData.tuple [.bool true]).shown ∧ (rowD (posI [])).shown ≠ (PyData.tuple [.int 0, .bool true]).shown := by decide +kernel
  have go : ∀ a b c : Bool, ((rowD (posI [a])).shown ≠ (PyData.tuple [.bool true]).shown ∧ (rowD (posI [a])).shown ≠ (PyData.tuple [.int 0, .bool true]).shown) ∧ ((rowD (posI [a, b])).shown ≠ (PyData.tuple [.bool true]).shown ∧ (rowD (posI [a, b])).shown ≠ (PyData.tuple [.int 0, .bool true]).shown) ∧ ((rowD (posI [a, b, c])).shown ≠ (PyData.tuple [.bool true]).shown ∧ (rowD (posI [a, b, c])).shown ≠ (PyData.tuple [.int 0, .bool true]).shown) := by decide +kernel
  match ss, hl with
  | [], _ => exact go0
  | [a], _ => exact (go a true true).1
  | [a, b], _ => exact (go a b true).2.1
  | [a, b, c], _ => exact (go a b c).2.2
theorem tick_row {r : List Int} (hl : r.length ≤ 10) (hb : ∀ i ∈ r, -1 ≤ i ∧ i < 10 ^ 40) : TickOk (rowD r) :=
  ⟨.row r, shaped_intL r, (okf_tup (okf_ints hb)).mono (by rw [List.length_map]; omega) (by decide)⟩
theorem tick_lst {r : List Int} (hl : r.length ≤ 10) (hb : ∀ i ∈ r, -1 ≤ i ∧ i < 10 ^ 40) : TickOk (.list (r.map PyData.int)) :=
  ⟨.lst r, shaped_intL r, (okf_lst (okf_ints hb)).mono (by rw [List.length_map]; omega) (by decide)⟩
theorem tick_odd {r : List Int} {x : PyData} (hl : r.length ≤ 9) (hb : ∀ i ∈ r, -1 ≤ i ∧ i < 10 ^ 40) (hx : x = .bool true ∨ x = .none ∨ x = .str "0") : TickOk (.tuple (r.map PyData.int ++ [x])) := by
  have fx : OkF 140 0 x ∧ x.canLay0 = true ∧ x.depth ≤ 60 := by
    rcases hx with rfl | rfl | rfl
    · exact ⟨(okf_bool (e := 0)).mono (by decide) (by decide), rfl, by decide⟩
    · exact ⟨(okf_none (e := 0)).mono (by decide) (by decide), rfl, by decide⟩
    · have e : ("0" : Str) = Str.ofString (toString (0 : Int)) := by decide +kernel
      exact ⟨by rw [e]; exact okf_num (by decide) (by decide +kernel), by decide +kernel, by decide +kernel⟩
  refine ⟨.odd r x hx, shaped_tup fun d hd => ?_, (okf_tup (w := 140) (e := 0) fun d hd => ?_).mono (by rw [List.length_append, List.length_map]; show 141 * (r.length + 1) ≤ 2000; omega) (by decide)⟩
  · rcases List.mem_append.mp hd with h | h
    · obtain ⟨i, _, rfl⟩ := List.mem_map.mp h
      exact ⟨rfl, Nat.zero_le _⟩
    · rw [List.mem_singleton.mp h]; exact fx.2
  · rcases List.mem_append.mp hd with h | h
    · exact okf_ints hb d h
    · rw [List.mem_singleton.mp h]; exact fx.1
theorem tick_non : TickOk .none := ⟨.non, rfl, (okf_none (e := 0)).mono (by decide) (by decide)⟩
theorem tick_zero : TickOk (.int 0) := ⟨.zero, rfl, (okf_int (e := 0) (by decide) (by decide +kernel)).mono (by decide) (by decide)⟩
theorem tick_tru : TickOk (.bool true) := ⟨.tru, rfl, (okf_bool (e := 0)).mono (by decide) (by decide)⟩
theorem tick_nest : TickOk (.tuple [.tuple []]) := by
  have h0 : OkF 0 1 (.tuple []) := (okf_tup (w := 0) (e := 0) (ds := []) fun _ z => by cases z).mono (by decide) (by decide)
  exact ⟨.nest, by decide +kernel, (okf_tup (w := 0) (e := 1) (ds := [.tuple []]) fun d hd => by rw [List.mem_singleton.mp hd]; exact h0).mono (by decide) (by decide)⟩
/-- what is no tick of works is told apart by its value or its text -/
theorem tick_fail {many n : Nat} {d : PyData} {sets : List (List Int)} (hm : many ≤ 3) (mem : ∀ s, s ∈ sets ↔ s ∈ setsL many n) (C : TickC d) (h : membersB (many : Int) (n : Int) (tickO d) = false) :
    ((sets.map rowD).any fun z => PyData.eqv z d) = false ∨ ∀ s ∈ sets, (rowD s).shown ≠ d.shown := by
  have none_of : (∀ s ∈ sets, PyData.eqv (rowD s) d = false) → ((sets.map rowD).any fun z => PyData.eqv z d) = false := fun h => by
    rw [List.any_eq_false]
    intro z hz
    obtain ⟨s, hs, rfl⟩ := List.mem_map.mp hz
    rw [h s hs]; exact Bool.false_ne_true
  cases C with
  | row r =>
    refine .inl (none_of fun s hs => ?_)
    show PyData.eqvAll _ _ = false
    rw [eqv_ints]
    refine decide_eq_false fun e => ?_
    obtain ⟨ss, h1, h2, rfl⟩ := sets_mem.mp ((mem s).mp hs)
    rw [← e, pass_row h1 h2] at h
    cases h
  | odd r x hx =>
    by_cases c : ∃ s ∈ sets, PyData.eqv (rowD s) (.tuple (r.map PyData.int ++ [x])) = true
    · obtain ⟨s, hs, e⟩ := c
      obtain ⟨l, rfl, e2⟩ := eqv_odd (show PyData.eqvAll (s.map PyData.int) (r.map PyData.int ++ [x]) = true from e)
      rcases hx with rfl | rfl | rfl
      · have l1 : l = 1 := by simpa [PyData.eqv] using e2
        subst l1
        obtain ⟨ss, h1, h2, h3⟩ := sets_mem.mp ((mem _).mp hs)
        refine .inr fun s' hs' => ?_
        obtain ⟨ss', h1', h2', rfl⟩ := sets_mem.mp ((mem _).mp hs')
        have g := shown_odd ss' (by omega)
        rcases last_one ss (by omega) r h3.symm with rfl | rfl
        · exact g.1
        · exact g.2
      · simp [PyData.eqv] at e2
      · simp [PyData.eqv] at e2
    · refine .inl (none_of fun s hs => ?_)
      cases z : PyData.eqv (rowD s) (.tuple (r.map PyData.int ++ [x])) with
      | false => rfl
      | true => exact absurd ⟨s, hs, z⟩ c
  | lst r => exact .inl (none_of fun s _ => by simp [PyData.eqv])
  | non => exact .inl (none_of fun s _ => by simp [PyData.eqv])
  | zero => exact .inl (none_of fun s _ => by simp [PyData.eqv])
  | tru => exact .inl (none_of fun s _ => by simp [PyData.eqv])
  | nest => exact .inl (none_of fun s _ => by
      match s with
      | [] => simp [PyData.eqv, PyData.eqvAll]
      | [k] => simp [PyData.eqv, PyData.eqvAll]
      | k :: m :: s => simp [PyData.eqv, PyData.eqvAll])
theorem kept_near {js : List Job} {t : Int} : ∀ {r : List Int}, r.length = js.length → (notNear js r t).isEmpty = keptAll js t r := by
  have go : ∀ (l : List Job) (r : List Int) (i : Nat), r.length = l.length → (posL (fun q : Job × Int => !nearB q.1.2.1 q.1.2.2 q.2 t) (l.zip r) i).isEmpty = keptAll l t r := by
    intro l
    induction l with
    | nil => intro r i h; cases r with
      | nil => rfl
      | cons x r => simp at h
    | cons j l ih =>
      intro r i h
      cases r with
      | nil => simp at h
      | cons x r =>
        have e : nearB j.2.1 j.2.2 x t = keptZ (j.2.1 : Int) (j.2.2 : Int) t x := by
          unfold nearB keptZ
          refine decide_eq_decide.mpr ?_
          split <;> omega
        have ih := ih r (i + 1) (by simpa using h)
        show (if (!nearB j.2.1 j.2.2 x t) = true then i :: _ else _ : List Nat).isEmpty = (keptZ (j.2.1 : Int) (j.2.2 : Int) t x && keptAll l t r)
        rw [← e]
        cases nearB j.2.1 j.2.2 x t with
        | true => exact ih
        | false => rfl
  intro r h
  exact go js r 0 h
theorem dpa_ints29 {K : PySem.W.Frag} {H : Hp} : ∀ {ws : List V} {s : List Int}, DpAll K H ws (s.map PyData.int) → ws = s.map V.int
  | _, [], h => by cases h; rfl
  | _, i :: s, h => by
    cases h with
    | cons a t => cases a; rw [dpa_ints29 t]; rfl
/-! ## what is asked -/
def BentOk (d : PyData) : Prop := (∃ ds, d = .tuple ds ∧ ds.length ≤ 30 ∧ ∀ x ∈ ds, TickOk x) ∨ (∀ ds, d ≠ .tuple ds)
def spRightT29 (K : PySem.W.Frag) : Sp := fun vs H Q _ => ∃ (p q : Addr) (n : Nat) (js : List Job) (v : V) (d : PyData), vs = [.ref p, v] ∧ SqT K H p [.int (n : Int), .ref q] ∧ Dp K H (.ref q) (jobsD js) ∧ Dp K H v d ∧ BentOk d ∧ Good 16 js ∧ Div12 js ∧ 0 < js.length ∧ js.length ≤ 3 ∧ n ≤ 6 ∧
  ∀ H', Same H H' → Q (.bl (keepsB js (List.replicate (spanN js) (n : Int)) (tabO d))) H'
def spBentJ (K : PySem.W.Frag) : Sp := fun vs H Q _ => ∃ (b t : Addr) (us : List V) (rows : List (List Int)) (many : Nat), vs = [.ref b, .ref t, .int (many : Int)] ∧ Bas H b ∧ SqT K (hid b H) t us ∧ DpAll K (hid b H) us (rows.map rowD) ∧ 0 < rows.length ∧ rows.length ≤ 12 ∧ (∀ r ∈ rows, r.length ≤ 3 ∧ ∀ i ∈ r, 0 ≤ i ∧ i < 3) ∧ 1 ≤ many ∧ many ≤ 3 ∧
  ∀ (v : V) (d : PyData) (H' : Hp), BentOk d → But b H H' → Bas H' b → Dp K (hid b H') v d → Q v H'
theorem dpa_put29 {K : PySem.W.Frag} {H : Hp} {us : List V} {ds : List PyData} {x : V} {d : PyData} (h : DpAll K H us ds) (hx : Dp K H x d) : ∀ i, DpAll K H (us.set i x) (ds.set i d) := by
  induction us generalizing ds with
  | nil => cases h; intro i; exact .nil
  | cons u us ih =>
    cases h with
    | cons a t =>
      intro i
      cases i with
      | zero => exact .cons hx t
      | succ i => exact .cons a (ih t i)
theorem dpa_drop29 {K : PySem.W.Frag} {H : Hp} {us : List V} {ds : List PyData} (h : DpAll K H us ds) : ∀ n, DpAll K H (us.drop n) (ds.drop n) := by
  induction us generalizing ds with
  | nil => cases h; intro n; rw [List.drop_nil, List.drop_nil]; exact .nil
  | cons u us ih =>
    cases h with
    | cons a t =>
      intro n
      cases n with
      | zero => exact .cons a t
      | succ n => exact ih t n
theorem dpa_take29 {K : PySem.W.Frag} {H : Hp} {us : List V} {ds : List PyData} (h : DpAll K H us ds) : ∀ n, DpAll K H (us.take n) (ds.take n) := by
  induction us generalizing ds with
  | nil => cases h; intro n; rw [List.take_nil, List.take_nil]; exact .nil
  | cons u us ih =>
    cases h with
    | cons a t =>
      intro n
      cases n with
      | zero => exact .nil
      | succ n => exact .cons a (ih t n)
theorem row_get29 {K : PySem.W.Frag} {H : Hp} {us : List V} {rows : List (List Int)} (h : DpAll K H us (rows.map rowD)) {i : Nat} {u : V} (hu : us[i]? = some u) : ∃ (a : Addr) (r : List Int), u = .ref a ∧ rows[i]? = some r ∧ SqT K H a (r.map V.int) := by
  obtain ⟨d, hd, hv⟩ := h.get hu
  rw [List.getElem?_map] at hd
  cases z : rows[i]? with
  | none => rw [z] at hd; cases hd
  | some r =>
    rw [z] at hd
    cases Option.some.inj hd
    obtain ⟨a, ws, rfl, hS, hA⟩ := (show Dp K H u (.tuple (r.map PyData.int)) from hv).tuple
    rw [DpAll.ints_eq hA] at hS
    exact ⟨a, r, rfl, rfl, hS⟩
/-- a row of works as it may lie after the first two ways -/
def FewR (r : List Int) : Prop := r.length ≤ 4 ∧ ∀ i ∈ r, 0 ≤ i ∧ i < 3
theorem FewR.ok {r : List Int} (h : FewR r) : TickOk (rowD r) := tick_row (by have := h.1; omega) fun i hi => by have := h.2 i hi; exact ⟨by omega, Int.lt_trans this.2 (by decide +kernel)⟩
def RowU (K : PySem.W.Frag) (H : Hp) (u : V) (r : List Int) : Prop := ∃ a, u = .ref a ∧ SqT K H a (r.map V.int)
theorem RowU.mono {K : PySem.W.Frag} {H H' : Hp} {u : V} {r : List Int} (h : RowU K H u r) (s : Same H H') : RowU K H' u r := by
  obtain ⟨a, e, h⟩ := h
  exact ⟨a, e, sameT s h⟩
theorem RowU.dp {K : PySem.W.Frag} {H : Hp} {u : V} {r : List Int} (h : RowU K H u r) : Dp K H u (rowD r) := by
  obtain ⟨a, rfl, h⟩ := h
  exact .tup h (.ints _)
theorem bent_rows {rows : List (List Int)} (hl : rows.length ≤ 30) (h : ∀ r ∈ rows, FewR r) : BentOk (.tuple (rows.map rowD)) := .inl ⟨_, rfl, by rw [List.length_map]; exact hl, fun x hx => by
  obtain ⟨r, hr, rfl⟩ := List.mem_map.mp hx
  exact (h r hr).ok⟩
end Ts
namespace Ts
open PySem PySem.Spec PyProof.Rows L2 L2H LamX
abbrev s_is_number : Stmt := top 15
theorem sc_is_number : FnScope ["value", "low", "high"] ["value", "low", "high"] (defScope s_is_number) := ⟨rfl, rfl, rfl, by decide +kernel, rfl, by decide +kernel, by decide +kernel⟩
abbrev s_is_number_from : Stmt := top 16
theorem sc_is_number_from : FnScope ["value", "low"] ["value", "low"] (defScope s_is_number_from) := ⟨rfl, rfl, rfl, by decide +kernel, rfl, by decide +kernel, by decide +kernel⟩
abbrev s_is_name : Stmt := top 17
theorem sc_is_name : FnScope ["value", "letter"] ["value"] (defScope s_is_name) := ⟨rfl, rfl, rfl, by decide +kernel, rfl, by decide +kernel, by decide +kernel⟩
abbrev s_is_share : Stmt := top 18
theorem sc_is_share : FnScope ["value", "top", "bottom"] ["value"] (defScope s_is_share) := ⟨rfl, rfl, rfl, by decide +kernel, rfl, by decide +kernel, by decide +kernel⟩
abbrev s_keeps_all : Stmt := top 20
theorem sc_keeps_all : FnScope ["shares", "hands", "value", "had", "moment", "members", "at"] ["shares", "hands", "value"] (defScope s_keeps_all) := ⟨rfl, rfl, rfl, by decide +kernel, rfl, by decide +kernel, by decide +kernel⟩
abbrev s_are_kept : Stmt := top 21
theorem sc_are_kept : FnScope ["shares", "moment", "had", "share", "number"] ["shares", "moment", "had"] (defScope s_are_kept) := ⟨rfl, rfl, rfl, by decide +kernel, rfl, by decide +kernel, by decide +kernel⟩
abbrev s_is_kept : Stmt := top 22
theorem sc_is_kept : FnScope ["share", "moment", "number", "top", "bottom"] ["share", "moment", "number"] (defScope s_is_kept) := ⟨rfl, rfl, rfl, by decide +kernel, rfl, by decide +kernel, by decide +kernel⟩
abbrev s__are_members : Stmt := top 23
theorem sc__are_members : FnScope ["value", "many", "most", "least", "at"] ["value", "many", "most"] (defScope s__are_members) := ⟨rfl, rfl, rfl, by decide +kernel, rfl, by decide +kernel, by decide +kernel⟩
abbrev s_Lot___init__ : Stmt := inClass (top 25) 0
theorem sc_Lot___init__ : FnScope ["self", "text", "first", "rows", "hands", "works"] ["self", "text"] (defScope s_Lot___init__) := ⟨rfl, rfl, rfl, by decide +kernel, rfl, by decide +kernel, by decide +kernel⟩
abbrev s_Lot_hands : Stmt := inClass (top 25) 2
theorem sc_Lot_hands : FnScope ["self"] ["self"] (defScope s_Lot_hands) := ⟨rfl, rfl, rfl, by decide +kernel, rfl, by decide +kernel, by decide +kernel⟩
abbrev s_Lot_shares : Stmt := inClass (top 25) 4
theorem sc_Lot_shares : FnScope ["self"] ["self"] (defScope s_Lot_shares) := ⟨rfl, rfl, rfl, by decide +kernel, rfl, by decide +kernel, by decide +kernel⟩
abbrev s_Lot_span : Stmt := inClass (top 25) 6
theorem sc_Lot_span : FnScope ["self"] ["self"] (defScope s_Lot_span) := ⟨rfl, rfl, rfl, by decide +kernel, rfl, by decide +kernel, by decide +kernel⟩
abbrev s_check_lot : Stmt := top 26
theorem sc_check_lot : FnScope ["lot"] ["lot"] (defScope s_check_lot) := ⟨rfl, rfl, rfl, by decide +kernel, rfl, by decide +kernel, by decide +kernel⟩
abbrev s_check_round : Stmt := top 27
theorem sc_check_round : FnScope ["lot"] ["lot"] (defScope s_check_round) := ⟨rfl, rfl, rfl, by decide +kernel, rfl, by decide +kernel, by decide +kernel⟩
abbrev s__read_hands : Stmt := top 28
theorem sc__read_hands : FnScope ["row", "words"] ["row"] (defScope s__read_hands) := ⟨rfl, rfl, rfl, by decide +kernel, rfl, by decide +kernel, by decide +kernel⟩
abbrev s__read_works : Stmt := top 29
theorem sc__read_works : FnScope ["rows", "works", "row", "work"] ["rows"] (defScope s__read_works) := ⟨rfl, rfl, rfl, by decide +kernel, rfl, by decide +kernel, by decide +kernel⟩
abbrev s__read_work : Stmt := top 30
theorem sc__read_work : FnScope ["row", "words", "word", "share"] ["row"] (defScope s__read_work) := ⟨rfl, rfl, rfl, by decide +kernel, rfl, by decide +kernel, by decide +kernel⟩
abbrev s__read_number : Stmt := top 31
theorem sc__read_number : FnScope ["word", "most", "number"] ["word", "most"] (defScope s__read_number) := ⟨rfl, rfl, rfl, by decide +kernel, rfl, by decide +kernel, by decide +kernel⟩
abbrev s__span_of : Stmt := top 32
theorem sc__span_of : FnScope ["shares", "span", "_", "bottom"] ["shares"] (defScope s__span_of) := ⟨rfl, rfl, rfl, by decide +kernel, rfl, by decide +kernel, by decide +kernel⟩
abbrev s__total_of : Stmt := top 33
theorem sc__total_of : FnScope ["shares", "span", "top", "bottom", "parts", "common"] ["shares", "span"] (defScope s__total_of) := ⟨rfl, rfl, rfl, by decide +kernel, rfl, by decide +kernel, by decide +kernel⟩
abbrev s_is_table : Stmt := top 35
theorem sc_is_table : FnScope ["lot", "value"] ["lot", "value"] (defScope s_is_table) := ⟨rfl, rfl, rfl, by decide +kernel, rfl, by decide +kernel, by decide +kernel⟩
abbrev s_is_right : Stmt := top 36
theorem sc_is_right : FnScope ["lot", "value"] ["lot", "value"] (defScope s_is_right) := ⟨rfl, rfl, rfl, by decide +kernel, rfl, by decide +kernel, by decide +kernel⟩
abbrev s__law_cell : Stmt := top 38
theorem sc__law_cell : FnScope ["_law_cells", "_law_spot", "_law_mixed", "_law_number"] ["_law_cells", "_law_spot"] (defScope s__law_cell) := ⟨rfl, rfl, rfl, by decide +kernel, rfl, by decide +kernel, by decide +kernel⟩
abbrev s__law_jar : Stmt := top 39
theorem sc__law_jar : FnScope ["_law_cells", "_law_spot", "_law_cell_here"] ["_law_cells", "_law_spot"] (defScope s__law_jar) := ⟨rfl, rfl, rfl, by decide +kernel, rfl, by decide +kernel, by decide +kernel⟩
abbrev s__law_dig : Stmt := top 40
theorem sc__law_dig : FnScope ["_law_jar_here", "_law_many", "_law_mixed", "_law_digit"] ["_law_jar_here", "_law_many"] (defScope s__law_dig) := ⟨rfl, rfl, rfl, by decide +kernel, rfl, by decide +kernel, by decide +kernel⟩
abbrev s__law_take : Stmt := top 41
theorem sc__law_take : FnScope ["_law_jar_here", "_law_some"] ["_law_jar_here", "_law_some"] (defScope s__law_take) := ⟨rfl, rfl, rfl, by decide +kernel, rfl, by decide +kernel, by decide +kernel⟩
abbrev s__law_lot : Stmt := top 42
theorem sc__law_lot : FnScope ["_law_jar_here", "_law_most", "_law_menu", "_law_tags", "_law_many", "_law_k"] ["_law_jar_here", "_law_most"] (defScope s__law_lot) := ⟨rfl, rfl, rfl, by decide +kernel, rfl, by decide +kernel, by decide +kernel⟩
abbrev s__law_fitting : Stmt := top 43
theorem sc__law_fitting : FnScope ["_law_jar_here", "_law_most", "_law_own", "_law_works", "_law_tag", "_law_e", "_law_p", "_law_needed"] ["_law_jar_here", "_law_most"] (defScope s__law_fitting) := ⟨rfl, rfl, rfl, by decide +kernel, rfl, by decide +kernel, by decide +kernel⟩
abbrev s__law_text : Stmt := top 44
theorem sc__law_text : FnScope ["_law_lot_here", "_law_rows", "_law_tag", "_law_e", "_law_p"] ["_law_lot_here"] (defScope s__law_text) := ⟨rfl, rfl, rfl, by decide +kernel, rfl, by decide +kernel, by decide +kernel⟩
abbrev s__law_span : Stmt := top 45
theorem sc__law_span : FnScope ["_law_lot_here", "_law_k", "_law_tag", "_law_e", "_law_p"] ["_law_lot_here"] (defScope s__law_span) := ⟨rfl, rfl, rfl, by decide +kernel, rfl, by decide +kernel, by decide +kernel⟩
abbrev s__law_kept : Stmt := top 46
theorem sc__law_kept : FnScope ["_law_lot_here", "_law_had", "_law_t", "_law_k"] ["_law_lot_here", "_law_had", "_law_t"] (defScope s__law_kept) := ⟨rfl, rfl, rfl, by decide +kernel, rfl, by decide +kernel, by decide +kernel⟩
abbrev s__law_near : Stmt := top 47
theorem sc__law_near : FnScope ["_law_share_here", "_law_many", "_law_t"] ["_law_share_here", "_law_many", "_law_t"] (defScope s__law_near) := ⟨rfl, rfl, rfl, by decide +kernel, rfl, by decide +kernel, by decide +kernel⟩
abbrev s__law_all_at : Stmt := top 48
theorem sc__law_all_at : FnScope ["_law_lot_here", "_law_t", "_law_found", "_law_tag", "_law_e", "_law_p", "_law_low", "_law_later", "_law_some", "_law_many"] ["_law_lot_here", "_law_t"] (defScope s__law_all_at) := ⟨rfl, rfl, rfl, by decide +kernel, rfl, by decide +kernel, by decide +kernel⟩
abbrev s__law_sets : Stmt := top 49
theorem sc__law_sets : FnScope ["_law_many", "_law_most", "_law_found", "_law_k", "_law_some"] ["_law_many", "_law_most"] (defScope s__law_sets) := ⟨rfl, rfl, rfl, by decide +kernel, rfl, by decide +kernel, by decide +kernel⟩
abbrev s__law_plus : Stmt := top 50
theorem sc__law_plus : FnScope ["_law_had", "_law_given", "_law_k"] ["_law_had", "_law_given"] (defScope s__law_plus) := ⟨rfl, rfl, rfl, by decide +kernel, rfl, by decide +kernel, by decide +kernel⟩
abbrev s__law_living : Stmt := top 51
theorem sc__law_living : FnScope ["_law_lot_here", "_law_span_here", "_law_had", "_law_found", "_law_sets_here", "_law_t", "_law_here", "_law_s", "_law_row"] ["_law_lot_here"] (defScope s__law_living) := ⟨rfl, rfl, rfl, by decide +kernel, rfl, by decide +kernel, by decide +kernel⟩
abbrev s__law_is_right : Stmt := top 52
theorem sc__law_is_right : FnScope ["_law_lot_here", "_law_rows", "_law_had", "_law_sets_here", "_law_t", "_law_s"] ["_law_lot_here", "_law_rows"] (defScope s__law_is_right) := ⟨rfl, rfl, rfl, by decide +kernel, rfl, by decide +kernel, by decide +kernel⟩
abbrev s__law_tables : Stmt := top 53
theorem sc__law_tables : FnScope ["_law_lot_here", "_law_most", "_law_living_here", "_law_sets_here", "_law_zero", "_law_found", "_law_t", "_law_later", "_law_rows", "_law_had", "_law_s"] ["_law_lot_here", "_law_most"] (defScope s__law_tables) := ⟨rfl, rfl, rfl, by decide +kernel, rfl, by decide +kernel, by decide +kernel⟩
abbrev s__law_bent : Stmt := top 54
theorem sc__law_bent : FnScope ["_law_jar_here", "_law_rows", "_law_many", "_law_at", "_law_way", "_law_k", "_law_tick", "_law_j", "_law_other_at", "_law_swapped"] ["_law_jar_here", "_law_rows", "_law_many"] (defScope s__law_bent) := ⟨rfl, rfl, rfl, by decide +kernel, rfl, by decide +kernel, by decide +kernel⟩
abbrev s__law_right : Stmt := top 55
theorem sc__law_right : FnScope ["_law_jar_here", "_law_own", "_law_made", "_law_some", "_law_turn", "_law_rows", "_law_due"] ["_law_jar_here"] (defScope s__law_right) := ⟨rfl, rfl, rfl, by decide +kernel, rfl, by decide +kernel, by decide +kernel⟩
abbrev s_law : Stmt := top 56
theorem sc_law : FnScope ["_law_cells", "_law_k"] ["_law_cells"] (defScope s_law) := ⟨rfl, rfl, rfl, by decide +kernel, rfl, by decide +kernel, by decide +kernel⟩
def fF0 : DefF := ⟨fun K => He.ga K "_law_cell", "_law_cell", "_law_cell", s__law_cell⟩
def fF1 : DefF := ⟨fun K => He.ga K "_law_jar", "_law_jar", "_law_jar", s__law_jar⟩
def fF2 : DefF := ⟨fun K => He.ga K "_law_dig", "_law_dig", "_law_dig", s__law_dig⟩
def fF3 : DefF := ⟨fun K => He.ga K "_law_take", "_law_take", "_law_take", s__law_take⟩
def fF4 : DefF := ⟨fun K => He.ga K "_law_lot", "_law_lot", "_law_lot", s__law_lot⟩
def fF5 : DefF := ⟨fun K => He.ga K "_law_fitting", "_law_fitting", "_law_fitting", s__law_fitting⟩
def fF6 : DefF := ⟨fun K => He.ga K "_law_text", "_law_text", "_law_text", s__law_text⟩
def fF7 : DefF := ⟨fun K => He.ga K "_law_span", "_law_span", "_law_span", s__law_span⟩
def fF8 : DefF := ⟨fun K => He.ga K "_law_kept", "_law_kept", "_law_kept", s__law_kept⟩
def fF9 : DefF := ⟨fun K => He.ga K "_law_near", "_law_near", "_law_near", s__law_near⟩
def fF10 : DefF := ⟨fun K => He.ga K "_law_all_at", "_law_all_at", "_law_all_at", s__law_all_at⟩
def fF11 : DefF := ⟨fun K => He.ga K "_law_sets", "_law_sets", "_law_sets", s__law_sets⟩
def fF12 : DefF := ⟨fun K => He.ga K "_law_plus", "_law_plus", "_law_plus", s__law_plus⟩
def fF13 : DefF := ⟨fun K => He.ga K "_law_living", "_law_living", "_law_living", s__law_living⟩
def fF14 : DefF := ⟨fun K => He.ga K "_law_is_right", "_law_is_right", "_law_is_right", s__law_is_right⟩
def fF15 : DefF := ⟨fun K => He.ga K "_law_tables", "_law_tables", "_law_tables", s__law_tables⟩
def fF16 : DefF := ⟨fun K => He.ga K "_law_bent", "_law_bent", "_law_bent", s__law_bent⟩
def fF17 : DefF := ⟨fun K => He.ga K "_law_right", "_law_right", "_law_right", s__law_right⟩
def fF18 : DefF := ⟨fun K => He.ga K "law", "law", "law", s_law⟩
def fF19 : DefF := ⟨fun K => He.ga K "is_number", "is_number", "is_number", s_is_number⟩
def fF20 : DefF := ⟨fun K => He.ga K "is_number_from", "is_number_from", "is_number_from", s_is_number_from⟩
def fF21 : DefF := ⟨fun K => He.ga K "is_name", "is_name", "is_name", s_is_name⟩
def fF22 : DefF := ⟨fun K => He.ga K "is_share", "is_share", "is_share", s_is_share⟩
def fF23 : DefF := ⟨fun K => He.ga K "keeps_all", "keeps_all", "keeps_all", s_keeps_all⟩
def fF24 : DefF := ⟨fun K => He.ga K "are_kept", "are_kept", "are_kept", s_are_kept⟩
def fF25 : DefF := ⟨fun K => He.ga K "is_kept", "is_kept", "is_kept", s_is_kept⟩
def fF26 : DefF := ⟨fun K => He.ga K "_are_members", "_are_members", "_are_members", s__are_members⟩
def fF27 : DefF := ⟨fun K => He.ga K "check_lot", "check_lot", "check_lot", s_check_lot⟩
def fF28 : DefF := ⟨fun K => He.ga K "check_round", "check_round", "check_round", s_check_round⟩
def fF29 : DefF := ⟨fun K => He.ga K "_read_hands", "_read_hands", "_read_hands", s__read_hands⟩
def fF30 : DefF := ⟨fun K => He.ga K "_read_works", "_read_works", "_read_works", s__read_works⟩
def fF31 : DefF := ⟨fun K => He.ga K "_read_work", "_read_work", "_read_work", s__read_work⟩
def fF32 : DefF := ⟨fun K => He.ga K "_read_number", "_read_number", "_read_number", s__read_number⟩
def fF33 : DefF := ⟨fun K => He.ga K "_span_of", "_span_of", "_span_of", s__span_of⟩
def fF34 : DefF := ⟨fun K => He.ga K "_total_of", "_total_of", "_total_of", s__total_of⟩
def fF35 : DefF := ⟨fun K => He.ga K "is_table", "is_table", "is_table", s_is_table⟩
def fF36 : DefF := ⟨fun K => He.ga K "is_right", "is_right", "is_right", s_is_right⟩
def fF37 : DefF := ⟨fun K => He.ma K (He.ga K "Lot") "__init__", "__init__", "Lot.__init__", s_Lot___init__⟩
def fF38 : DefF := ⟨fun K => getAd K (He.ma K (He.ga K "Lot") "shares"), "shares", "Lot.shares", s_Lot_shares⟩
def fF39 : DefF := ⟨fun K => getAd K (He.ma K (He.ga K "Lot") "hands"), "hands", "Lot.hands", s_Lot_hands⟩
def fF40 : DefF := ⟨fun K => getAd K (He.ma K (He.ga K "Lot") "span"), "span", "Lot.span", s_Lot_span⟩
def fnF : List DefF := [fF0, fF1, fF2, fF3, fF4, fF5, fF6, fF7, fF8, fF9, fF10, fF11, fF12, fF13, fF14, fF15, fF16, fF17, fF18, fF19, fF20, fF21, fF22, fF23, fF24, fF25, fF26, fF27, fF28, fF29, fF30, fF31, fF32, fF33, fF34, fF35, fF36, fF37, fF38, fF39, fF40]
abbrev Ex0 (K : PySem.W.Frag) : Prop := (PySem.W.nsIn K mainGlobals "_law_cell" = some (some (.ref (He.ga K "_law_cell")))) ∧ (PySem.W.keepIn K (.ref (He.ga K "_law_cell")) = true) ∧ (PySem.W.nsIn K mainGlobals "_law_jar" = some (some (.ref (He.ga K "_law_jar")))) ∧ (PySem.W.keepIn K (.ref (He.ga K "_law_jar")) = true) ∧ (PySem.W.nsIn K mainGlobals "_law_dig" = some (some (.ref (He.ga K "_law_dig")))) ∧ (PySem.W.keepIn K (.ref (He.ga K "_law_dig")) = true) ∧ (PySem.W.nsIn K mainGlobals "_law_take" = some (some (.ref (He.ga K "_law_take")))) ∧ (PySem.W.keepIn K (.ref (He.ga K "_law_take")) = true) ∧ (PySem.W.nsIn K mainGlobals "_law_lot" = some (some (.ref (He.ga K "_law_lot")))) ∧ (PySem.W.keepIn K (.ref (He.ga K "_law_lot")) = true) ∧ (PySem.W.nsIn K mainGlobals "_law_fitting" = some (some (.ref (He.ga K "_law_fitting")))) ∧ (PySem.W.keepIn K (.ref (He.ga K "_law_fitting")) = true)
abbrev Ex1 (K : PySem.W.Frag) : Prop := (PySem.W.nsIn K mainGlobals "_law_text" = some (some (.ref (He.ga K "_law_text")))) ∧ (PySem.W.keepIn K (.ref (He.ga K "_law_text")) = true) ∧ (PySem.W.nsIn K mainGlobals "_law_span" = some (some (.ref (He.ga K "_law_span")))) ∧ (PySem.W.keepIn K (.ref (He.ga K "_law_span")) = true) ∧ (PySem.W.nsIn K mainGlobals "_law_kept" = some (some (.ref (He.ga K "_law_kept")))) ∧ (PySem.W.keepIn K (.ref (He.ga K "_law_kept")) = true) ∧ (PySem.W.nsIn K mainGlobals "_law_near" = some (some (.ref (He.ga K "_law_near")))) ∧ (PySem.W.keepIn K (.ref (He.ga K "_law_near")) = true) ∧ (PySem.W.nsIn K mainGlobals "_law_all_at" = some (some (.ref (He.ga K "_law_all_at")))) ∧ (PySem.W.keepIn K (.ref (He.ga K "_law_all_at")) = true) ∧ (PySem.W.nsIn K mainGlobals "_law_sets" = some (some (.ref (He.ga K "_law_sets")))) ∧ (PySem.W.keepIn K (.ref (He.ga K "_law_sets")) = true)
abbrev Ex2 (K : PySem.W.Frag) : Prop := (PySem.W.nsIn K mainGlobals "_law_plus" = some (some (.ref (He.ga K "_law_plus")))) ∧ (PySem.W.keepIn K (.ref (He.ga K "_law_plus")) = true) ∧ (PySem.W.nsIn K mainGlobals "_law_living" = some (some (.ref (He.ga K "_law_living")))) ∧ (PySem.W.keepIn K (.ref (He.ga K "_law_living")) = true) ∧ (PySem.W.nsIn K mainGlobals "_law_is_right" = some (some (.ref (He.ga K "_law_is_right")))) ∧ (PySem.W.keepIn K (.ref (He.ga K "_law_is_right")) = true) ∧ (PySem.W.nsIn K mainGlobals "_law_tables" = some (some (.ref (He.ga K "_law_tables")))) ∧ (PySem.W.keepIn K (.ref (He.ga K "_law_tables")) = true) ∧ (PySem.W.nsIn K mainGlobals "_law_bent" = some (some (.ref (He.ga K "_law_bent")))) ∧ (PySem.W.keepIn K (.ref (He.ga K "_law_bent")) = true) ∧ (PySem.W.nsIn K mainGlobals "_law_right" = some (some (.ref (He.ga K "_law_right")))) ∧ (PySem.W.keepIn K (.ref (He.ga K "_law_right")) = true)
abbrev Ex3 (K : PySem.W.Frag) : Prop := (PySem.W.nsIn K mainGlobals "law" = some (some (.ref (He.ga K "law")))) ∧ (PySem.W.keepIn K (.ref (He.ga K "law")) = true) ∧ (PySem.W.nsIn K mainGlobals "is_number" = some (some (.ref (He.ga K "is_number")))) ∧ (PySem.W.keepIn K (.ref (He.ga K "is_number")) = true) ∧ (PySem.W.nsIn K mainGlobals "is_number_from" = some (some (.ref (He.ga K "is_number_from")))) ∧ (PySem.W.keepIn K (.ref (He.ga K "is_number_from")) = true) ∧ (PySem.W.nsIn K mainGlobals "is_name" = some (some (.ref (He.ga K "is_name")))) ∧ (PySem.W.keepIn K (.ref (He.ga K "is_name")) = true) ∧ (PySem.W.nsIn K mainGlobals "is_share" = some (some (.ref (He.ga K "is_share")))) ∧ (PySem.W.keepIn K (.ref (He.ga K "is_share")) = true) ∧ (PySem.W.nsIn K mainGlobals "keeps_all" = some (some (.ref (He.ga K "keeps_all")))) ∧ (PySem.W.keepIn K (.ref (He.ga K "keeps_all")) = true)
abbrev Ex4 (K : PySem.W.Frag) : Prop := (PySem.W.nsIn K mainGlobals "are_kept" = some (some (.ref (He.ga K "are_kept")))) ∧ (PySem.W.keepIn K (.ref (He.ga K "are_kept")) = true) ∧ (PySem.W.nsIn K mainGlobals "is_kept" = some (some (.ref (He.ga K "is_kept")))) ∧ (PySem.W.keepIn K (.ref (He.ga K "is_kept")) = true) ∧ (PySem.W.nsIn K mainGlobals "_are_members" = some (some (.ref (He.ga K "_are_members")))) ∧ (PySem.W.keepIn K (.ref (He.ga K "_are_members")) = true) ∧ (PySem.W.nsIn K mainGlobals "check_lot" = some (some (.ref (He.ga K "check_lot")))) ∧ (PySem.W.keepIn K (.ref (He.ga K "check_lot")) = true) ∧ (PySem.W.nsIn K mainGlobals "check_round" = some (some (.ref (He.ga K "check_round")))) ∧ (PySem.W.keepIn K (.ref (He.ga K "check_round")) = true) ∧ (PySem.W.nsIn K mainGlobals "_read_hands" = some (some (.ref (He.ga K "_read_hands")))) ∧ (PySem.W.keepIn K (.ref (He.ga K "_read_hands")) = true)
abbrev Ex5 (K : PySem.W.Frag) : Prop := (PySem.W.nsIn K mainGlobals "_read_works" = some (some (.ref (He.ga K "_read_works")))) ∧ (PySem.W.keepIn K (.ref (He.ga K "_read_works")) = true) ∧ (PySem.W.nsIn K mainGlobals "_read_work" = some (some (.ref (He.ga K "_read_work")))) ∧ (PySem.W.keepIn K (.ref (He.ga K "_read_work")) = true) ∧ (PySem.W.nsIn K mainGlobals "_read_number" = some (some (.ref (He.ga K "_read_number")))) ∧ (PySem.W.keepIn K (.ref (He.ga K "_read_number")) = true) ∧ (PySem.W.nsIn K mainGlobals "_span_of" = some (some (.ref (He.ga K "_span_of")))) ∧ (PySem.W.keepIn K (.ref (He.ga K "_span_of")) = true) ∧ (PySem.W.nsIn K mainGlobals "_total_of" = some (some (.ref (He.ga K "_total_of")))) ∧ (PySem.W.keepIn K (.ref (He.ga K "_total_of")) = true) ∧ (PySem.W.nsIn K mainGlobals "is_table" = some (some (.ref (He.ga K "is_table")))) ∧ (PySem.W.keepIn K (.ref (He.ga K "is_table")) = true)
abbrev Ex6 (K : PySem.W.Frag) : Prop := (PySem.W.nsIn K mainGlobals "is_right" = some (some (.ref (He.ga K "is_right")))) ∧ (PySem.W.keepIn K (.ref (He.ga K "is_right")) = true) ∧ (PySem.W.nsIn K mainGlobals "Lot" = some (some (.ref (He.ga K "Lot")))) ∧ (PySem.W.findIn K (.ref (He.ga K "Lot")) "__init__" = some (some (.ref (He.ma K (He.ga K "Lot") "__init__")))) ∧ (PySem.W.keepIn K (.ref (He.ma K (He.ga K "Lot") "__init__")) = true) ∧ (PySem.W.isFn K (.ref (He.ma K (He.ga K "Lot") "__init__")) = true) ∧ (PySem.W.plainGet K (He.ga K "Lot") Str.empty = true) ∧ (PySem.W.hasDictIn K (He.ga K "Lot") = true) ∧ (PySem.W.plainOver K (He.ga K "Lot") = true) ∧ (PySem.W.findIn K (.ref (He.ga K "Lot")) "__setattr__" = some (some (.builtin "object.__setattr__"))) ∧ (PySem.W.makesIn K (He.ga K "Lot") = true) ∧ (PySem.W.keepIn K (.ref (He.ga K "Lot")) = true)
abbrev Ex7 (K : PySem.W.Frag) : Prop := (PySem.W.findIn K (.ref (He.ga K "Lot")) "__class__" = some (some (.builtin "object.__class__"))) ∧ (PySem.W.specialIn K (.builtin "object.__class__") "__get__" = some (some (.builtin "getset_descriptor.__get__"))) ∧ (PySem.W.takesIn K (.builtin "object.__class__") = some true) ∧ (PySem.W.mroIn K (He.ga K "Lot") (.type "object") = some true) ∧ (PySem.W.findIn K (.ref (He.ga K "Lot")) "_text" = some none) ∧ (PySem.W.findIn K (.ref (He.ga K "Lot")) "_hands" = some none) ∧ (PySem.W.findIn K (.ref (He.ga K "Lot")) "_names" = some none) ∧ (PySem.W.findIn K (.ref (He.ga K "Lot")) "_shares" = some none) ∧ (PySem.W.findIn K (.ref (He.ga K "Lot")) "_span" = some none) ∧ (PySem.W.findIn K (.ref (He.ga K "Lot")) "_total" = some none) ∧ (PySem.W.findIn K (.ref (He.ga K "Lot")) "shares" = some (some (.ref (He.ma K (He.ga K "Lot") "shares")))) ∧ (PySem.W.recIn K (He.ma K (He.ga K "Lot") "shares") "property" = some (.ref (getAd K (He.ma K (He.ga K "Lot") "shares")) :: (restAd K (He.ma K (He.ga K "Lot") "shares"))))
abbrev Ex8 (K : PySem.W.Frag) : Prop := (PySem.W.specialIn K (.ref (He.ma K (He.ga K "Lot") "shares")) "__get__" = some (some (.builtin "property.__get__"))) ∧ (PySem.W.takesIn K (.ref (He.ma K (He.ga K "Lot") "shares")) = some true) ∧ (PySem.W.keepIn K (.ref (getAd K (He.ma K (He.ga K "Lot") "shares"))) = true) ∧ (PySem.W.findIn K (.ref (He.ga K "Lot")) "hands" = some (some (.ref (He.ma K (He.ga K "Lot") "hands")))) ∧ (PySem.W.recIn K (He.ma K (He.ga K "Lot") "hands") "property" = some (.ref (getAd K (He.ma K (He.ga K "Lot") "hands")) :: (restAd K (He.ma K (He.ga K "Lot") "hands")))) ∧ (PySem.W.specialIn K (.ref (He.ma K (He.ga K "Lot") "hands")) "__get__" = some (some (.builtin "property.__get__"))) ∧ (PySem.W.takesIn K (.ref (He.ma K (He.ga K "Lot") "hands")) = some true) ∧ (PySem.W.keepIn K (.ref (getAd K (He.ma K (He.ga K "Lot") "hands"))) = true) ∧ (PySem.W.findIn K (.ref (He.ga K "Lot")) "span" = some (some (.ref (He.ma K (He.ga K "Lot") "span")))) ∧ (PySem.W.recIn K (He.ma K (He.ga K "Lot") "span") "property" = some (.ref (getAd K (He.ma K (He.ga K "Lot") "span")) :: (restAd K (He.ma K (He.ga K "Lot") "span")))) ∧ (PySem.W.specialIn K (.ref (He.ma K (He.ga K "Lot") "span")) "__get__" = some (some (.builtin "property.__get__"))) ∧ (PySem.W.takesIn K (.ref (He.ma K (He.ga K "Lot") "span")) = some true)
abbrev Ex9 (K : PySem.W.Frag) : Prop := (PySem.W.keepIn K (.ref (getAd K (He.ma K (He.ga K "Lot") "span"))) = true) ∧ (PySem.W.nsIn K mainGlobals "MOST_WORKS" = some (some (.int 6 (tokAd K "MOST_WORKS")))) ∧ (PySem.W.nsIn K mainGlobals "MOST_HANDS" = some (some (.int 6 (tokAd K "MOST_HANDS")))) ∧ (PySem.W.nsIn K mainGlobals "MOST_PERIOD" = some (some (.int 16 (tokAd K "MOST_PERIOD")))) ∧ (PySem.W.nsIn K mainGlobals "LONGEST_NAME" = some (some (.int 8 (tokAd K "LONGEST_NAME")))) ∧ (PySem.W.nsIn K mainGlobals "LETTERS" = some (some (.str (Str.ofString "abcdefghijklmnopqrstuvwxyz") (tokAd K "LETTERS")))) ∧ (PySem.W.nsIn K mainGlobals "MOST_ROUND" = some (some (.int 720 (tokAd K "MOST_ROUND")))) ∧ (PySem.W.nsIn K mainGlobals "len" = some none) ∧ (PySem.W.nsIn K mainGlobals "range" = some none) ∧ (PySem.W.nsIn K mainGlobals "abs" = some none) ∧ (PySem.W.nsIn K mainGlobals "divmod" = some none) ∧ (PySem.W.nsIn K mainGlobals "int" = some none)
abbrev Ex10 (K : PySem.W.Frag) : Prop := (PySem.W.nsIn K mainGlobals "str" = some none) ∧ (PySem.W.nsIn K mainGlobals "bool" = some none) ∧ (PySem.W.nsIn K mainGlobals "repr" = some none) ∧ (PySem.W.nsIn K mainGlobals "isinstance" = some none) ∧ (PySem.W.nsIn K mainGlobals "tuple" = some none) ∧ (PySem.W.nsIn K mainGlobals "list" = some none) ∧ (PySem.W.nsIn K mainGlobals "dict" = some none) ∧ (PySem.W.nsIn K mainGlobals "zip" = some none) ∧ (PySem.W.nsIn K mainGlobals "sum" = some none) ∧ (PySem.W.nsIn K mainGlobals "all" = some none) ∧ (PySem.W.nsIn K mainGlobals "max" = some none) ∧ (PySem.W.nsIn K mainGlobals "min" = some none)
abbrev Ex11 (K : PySem.W.Frag) : Prop := (PySem.W.nsIn K mainGlobals "sorted" = some none) ∧ (PySem.W.nsIn K mainGlobals "set" = some none) ∧ (PySem.W.nsIn K mainGlobals "enumerate" = some none) ∧ (PySem.W.nsIn K mainGlobals "gcd" = some (some (.builtin "math.gcd"))) ∧ (PySem.W.nsIn K mainGlobals "lcm" = some (some (.builtin "math.lcm")))
def exF (K : PySem.W.Frag) : Bool := decide (Ex0 K) && (decide (Ex1 K) && (decide (Ex2 K) && (decide (Ex3 K) && (decide (Ex4 K) && (decide (Ex5 K) && (decide (Ex6 K) && (decide (Ex7 K) && (decide (Ex8 K) && (decide (Ex9 K) && (decide (Ex10 K) && (decide (Ex11 K))))))))))))
def tfF : List (PySem.W.Frag → Addr × Addr) := []
def nmF0 : List Str := ["_wall", "WrongValue", "InvalidText", "NotALot", "NoAnswer", "TooMany", "MOST_WORKS", "MOST_HANDS", "MOST_PERIOD", "MOST_ROUND", "LETTERS", "LONGEST_NAME", "is_number", "is_number_from", "is_name", "is_share", "keeps_all", "are_kept", "is_kept", "_are_members"]
def nmF1 : List Str := ["Lot", "check_lot", "check_round", "_read_hands", "_read_works", "_read_work", "_read_number", "_span_of", "_total_of", "is_table", "is_right", "_law_cell", "_law_jar", "_law_dig", "_law_take", "_law_lot", "_law_fitting", "_law_text", "_law_span", "_law_kept"]
def nmF2 : List Str := ["_law_near", "_law_all_at", "_law_sets", "_law_plus", "_law_living", "_law_is_right", "_law_tables", "_law_bent", "_law_right"]
def nmF : List Str := nmF0 ++ nmF1 ++ nmF2
abbrev rwF : PySem.W.OpenRow := PySem.W.OpenLaw.row PySem.Challenge.rw_tickshares_k29_whole_bent_tables_judged
abbrev vwF : Program := PySem.W.view rwF.prog [0, 56]
def asF0 : List Addr := [3, 6, 4, 49, 66, 86, 105, 124, 144, 153, 160, 165, 172, 179, 184, 191, 198, 305, 316, 323, 330, 337, 342, 349, 356, 361, 368, 375, 382, 389, 396, 403, 408, 413, 418, 423, 428, 435, 440, 445]
def asF1 : List Addr := [450, 455, 460, 465, 470, 477, 482, 0, 48, 65, 85, 104, 123, 143, 152, 159, 164, 171, 178, 183, 190, 197, 304, 315, 322, 329, 336, 341, 348, 355, 360, 367, 374, 381, 388, 395, 402, 407, 412, 417]
def asF2 : List Addr := [422, 427, 434, 439, 444, 449, 454, 459, 464, 469, 476, 481, 43, 44, 45, 46, 47, 63, 64, 67, 83, 84, 102, 103, 121, 122, 125, 141, 142, 147, 148, 149, 150, 151, 154, 155, 156, 157, 158, 161]
def asF3 : List Addr := [162, 163, 166, 167, 168, 169, 170, 173, 174, 175, 176, 177, 180, 181, 182, 185, 186, 187, 188, 189, 192, 193, 194, 195, 196, 212, 220, 228, 236, 244, 252, 260, 267, 274, 281, 288, 295, 302, 303, 306]
def asF4 : List Addr := [307, 310, 311, 312, 313, 314, 317, 318, 319, 320, 321, 324, 325, 326, 327, 328, 331, 332, 333, 334, 335, 338, 339, 340, 343, 344, 345, 346, 347, 350, 351, 352, 353, 354, 357, 358, 359, 362, 363, 364]
def asF5 : List Addr := [365, 366, 369, 370, 371, 372, 373, 376, 377, 378, 379, 380, 383, 384, 385, 386, 387, 390, 391, 392, 393, 394, 397, 398, 399, 400, 401, 404, 405, 406, 409, 410, 411, 414, 415, 416, 419, 420, 421, 424]
def asF6 : List Addr := [425, 426, 429, 430, 431, 432, 433, 436, 437, 438, 441, 442, 443, 446, 447, 448, 451, 452, 453, 456, 457, 458, 461, 462, 463, 466, 467, 468, 471, 472, 473, 474, 475, 478, 479, 480, 62, 82, 101, 120]
def asF7 : List Addr := [140, 211, 219, 227, 235, 243, 251, 259, 266, 273, 280, 287, 294, 301, 57, 58, 59, 60, 61, 77, 78, 79, 80, 81, 96, 97, 98, 99, 100, 115, 116, 117, 118, 119, 135, 136, 137, 138, 139, 206]
def asF8 : List Addr := [207, 208, 209, 210, 218, 226, 234, 242, 250, 258, 261, 262, 263, 264, 265, 268, 269, 270, 271, 272, 275, 276, 277, 278, 279, 282, 283, 284, 285, 286, 289, 290, 291, 292, 293, 296, 297, 298, 299, 300]
def asF9 : List Addr := [213, 214, 215, 216, 217, 221, 222, 223, 224, 225, 229, 230, 231, 232, 233, 237, 238, 239, 240, 241, 245, 246, 247, 248, 249, 253, 254, 255, 256, 257]
def asF : List Addr := asF0 ++ asF1 ++ asF2 ++ asF3 ++ asF4 ++ asF5 ++ asF6 ++ asF7 ++ asF8 ++ asF9
--RUN
set_option maxHeartbeats 0 in
theorem runA (w : World) : (topF rwF 20000 (w)).map (fun x => (HandSHeadRun.looksF rwF.prog x.1.heap x.2.abs, HandSHeadRun.seenQ vwF nmF (importedModules rwF.prog.main.body) (fun s => PySem.W.xlAt vwF [] s && PySem.W.recOk rwF.toRowW.records s) x.2.abs)) = some (true, PySem.W.openGood vwF nmF) := by
  kernel_rfl
set_option maxHeartbeats 0 in
theorem runB (w : World) : (topF rwF 20000 (w)).map (fun x => viewF asF fnF tfF exF (HandSHeadRun.getT x.2)) = some (dueF fnF) := by
  kernel_rfl
set_option maxHeartbeats 0 in
theorem runF (w : World) : HandSHeadRun.RunEqI rwF vwF (hookF asF fnF tfF exF) (fun s => viewF asF fnF tfF exF (HandSHeadRun.getT s)) 20000 nmF w := run_two (runA w) (runB w)
end Ts
namespace Ts
open PySem PySem.Spec PyProof.Rows L2
section
variable {P : Program} {w : World} {K : PySem.W.Frag} {mg : Str → Option Value} {base : Heap}
theorem has_is_number_from (D : DefAt K mg "is_number_from" s_is_number_from) (B : Blt0 mg) : Has P w K mg base 1 "is_number_from" ["value", "low"] spIsNumberFrom := by
  refine D.has (fun _ _ _ _ _ _ us hl => match us, hl with | [_, _], _ => rfl) fun f fd F => F.ok sc_is_number_from (fun vs H Q E h => ?_) (fun cdv A outer s H vs Q E hr h => ?_)
  · obtain ⟨v, lo, rfl, _⟩ := h; rfl
  obtain ⟨v, lo, rfl, q⟩ := h
  refine ⟨_, (pss_one (ps_ret (pe_and (pe_callB call_isi (by rfl) B.zisinstance (by decide +kernel) (pa_cons (pv 0) (pa_cons (pe_ty "int" B.zint) pa_nil))) (pe_and (pe_not (pe_callB call_isi (by rfl) B.zisinstance (by decide +kernel) (pa_cons (pv 0) (pa_cons (pe_ty "bool" B.zbool) pa_nil)))) (pe_one (pe_cmpR op_le (pv 1) (pv 0) (nomark _))))))), ?_⟩
  refine ⟨_, rfl, _, _, _, _, _, rfl, .ty "int", .base (.int v), kit_ty (r := true) (by decide +kernel), true, rfl, ?_⟩
  refine iteT ⟨_, rfl, _, _, _, _, _, rfl, .ty "bool", .base (.int v), kit_ty (r := false) (by decide +kernel), false, rfl, true, rfl, ?_⟩
  refine iteT ⟨_, rfl, _, rfl, _, _, rfl, rfl, q⟩
theorem has_is_number (D : DefAt K mg "is_number" s_is_number) (B : Blt0 mg) (h_is_number_from : Has P w K mg base 1 "is_number_from" ["value", "low"] spIsNumberFrom) : Has P w K mg base 2 "is_number" ["value", "low", "high"] spIsNumber := by
  refine D.has (fun _ _ _ _ _ _ us hl => match us, hl with | [_, _, _], _ => rfl) fun f fd F => F.ok sc_is_number (fun vs H Q E h => ?_) (fun cdv A outer s H vs Q E hr h => ?_)
  · obtain ⟨v, lo, hi, rfl, _⟩ := h; rfl
  obtain ⟨v, lo, hi, rfl, q⟩ := h
  refine ⟨_, (pss_one (ps_ret (pe_and (pe_h h_is_number_from (hr.mono (by decide)) (pa_cons (pv 0) (pa_cons (pv 1) pa_nil))) (pe_one (pe_cmpR op_le (pv 0) (pv 2) (nomark _)))))), ?_⟩
  refine ⟨_, rfl, _, rfl, v, lo, rfl, ?_⟩
  refine ⟨decide (lo ≤ v), rfl, ?_⟩
  refine ite2 (fun c => ?_) (fun c => ?_)
  · refine ⟨_, rfl, _, rfl, _, _, rfl, rfl, ?_⟩
    have e : decide (v ≤ hi) = decide (lo ≤ v ∧ v ≤ hi) := by
      have := of_decide_eq_true c
      by_cases z : v ≤ hi <;> simp [z, this]
    show Q (V.bl (decide (v ≤ hi))) _
    rw [e]; exact q
  · have e : false = decide (lo ≤ v ∧ v ≤ hi) := by
      refine (decide_eq_false fun z => c (decide_eq_true z.1)).symm
    rw [e]; exact q
theorem has_is_name (D : DefAt K mg "is_name" s_is_name) (B : Blt0 mg) (C : Cst mg) : Has P w K mg base 1 "is_name" ["value"] spIsName := by
  refine D.has (fun _ _ _ _ _ _ us hl => match us, hl with | [_], _ => rfl) fun f fd F => F.ok sc_is_name (fun vs H Q E h => ?_) (fun cdv A outer s H vs Q E hr h => ?_)
  · obtain ⟨t, rfl, _⟩ := h; rfl
  obtain ⟨t, rfl, ht, q⟩ := h
  refine ⟨_, (pss_cons (ps_if (PW.pt (pw_or (pt_not (pt_val (pe_callB call_isi (by rfl) B.zisinstance (by decide +kernel) (pa_cons (pv 0) (pa_cons (pe_ty "str" B.zstr) pa_nil))))) (pw_or1 (pt_not (pt_chain op_le op_le pe_int (pe_callB call_len_str (by rfl) B.zlen (by decide +kernel) (pa_cons (pv 0) pa_nil)) (pe_gint C.LONGEST_NAME)))))) (pss_one (ps_ret pe_bl)) pss_nil)
      (pss_one (ps_ret (pe_callB (call_allB rfl) (by rfl) B.zall (by decide +kernel) (pa_cons (pe_lc (own := [("letter", 1)]) rfl sc_is_name.nd (pi_str (pv 0)) (blkOk_by (N := ["value", "letter"]) (sc := defScope s_is_name) (own := [("letter", 1)]) (by decide +kernel)) (fun _ _ _ _ _ => (pg_name (i := 1) sc_is_name.nd rfl (.inl rfl) (.inr rfl))) (fun _ _ _ _ _ => pts_nil) (fun _ _ _ _ _ => (pe_cmpR op_in_sign (pv 1) (pe_gstr C.LETTERS) (by rfl)))) pa_nil))))), ?_⟩
  have hl := ht.1
  have hl2 := ht.2.1
  refine ⟨_, rfl, _, _, _, _, _, rfl, .ty "str", .base (.str t), kit_ty (r := true) (by decide +kernel), true, rfl, ?_⟩
  refine iteF ⟨_, rfl, _, rfl, Nat.le_of_lt (small1000 (by omega)), _, _, rfl, rfl, _, rfl, ?_⟩
  have c1 : decide ((1 : Int) ≤ (t.length : Int)) = true := decide_eq_true (by omega)
  have c2 : decide ((t.length : Int) ≤ 8) = true := decide_eq_true (by omega)
  rw [c1]
  refine iteT ⟨_, _, rfl, rfl, _, rfl, ?_⟩
  rw [c2]
  refine iteF ?_
  refine ⟨_, rfl, _, rfl, fun D2 hD => lc_it walk_str (fun i H1 => Same H H1 ∧ H1 D2 = some (.lst ((List.replicate i true).map V.bl))) ⟨same_new hD, upd_same⟩ (fun _ _ _ _ => True.intro) ?_ ?_⟩
  · rintro i x H1 H1' hi ⟨sm, e1⟩ ⟨rfl, c, hc, rfl⟩
    refine ⟨rfl, yesIf ⟨_, rfl, _, _, rfl, rfl, _, e1, ?_, Same.app hD sm, ?_⟩⟩
    · rw [List.length_map, List.length_replicate]
      refine small1000 ?_
      have : t.cps.size = t.length := rfl
      omega
    · have hm : c ∈ t.cps.toList := List.mem_of_getElem? (by rw [Array.getElem?_toList]; exact hc)
      have hin : decide (c ∈ (Str.ofString "abcdefghijklmnopqrstuvwxyz").cps.toList) = true := decide_eq_true (abc_has (ht.2.2 c hm))
      rw [upd_same, hin, List.replicate_succ', List.map_append]; rfl
  · rintro H1 ⟨sm, e1⟩
    refine ⟨_, _, rfl, SqL.of e1, ?_⟩
    have e : (List.replicate t.cps.size true).all id = true := by simp
    rw [e]; exact q H1 sm
theorem has_is_share (D : DefAt K mg "is_share" s_is_share) (B : Blt mg) (C : Cst mg) (h_is_number : Has P w K mg base 2 "is_number" ["value", "low", "high"] spIsNumber) : Has P w K mg base 3 "is_share" ["value"] spIsShare := by
  refine D.has (fun _ _ _ _ _ _ us hl => match us, hl with | [_], _ => rfl) fun f fd F => F.ok sc_is_share (fun vs H Q E h => ?_) (fun cdv A outer s H vs Q E hr h => ?_)
  · obtain ⟨q, e, p, rfl, _⟩ := h; rfl
  obtain ⟨t, e, p, rfl, ht, ⟨p1, p2, p3, p4⟩, q⟩ := h
  refine ⟨_, (pss_cons (ps_if (PW.pt (pw_or (pt_not (pt_val (pe_callB call_isi (by rfl) B.zisinstance (by decide +kernel) (pa_cons (pv 0) (pa_cons (pe_ty "tuple" B.ztuple) pa_nil))))) (pw_or1 (pt_cmpR op_ne (pe_callB call_len_seq (by rfl) B.zlen (by decide +kernel) (pa_cons (pv 0) pa_nil)) pe_int (nomark _))))) (pss_one (ps_ret pe_bl)) pss_nil)
      (pss_cons (ps_asg (pv 0) (pg_tup rfl (pgs_cons (pg_name (i := 1) sc_is_share.nd rfl (.inl rfl)) (pgs_cons (pg_name (i := 2) sc_is_share.nd rfl (.inl rfl)) pgs_nil))))
      (pss_cons (ps_if (PW.pt (pw_or (pt_not (pt_val (pe_h h_is_number (hr.mono (by decide)) (pa_cons (pv 2) (pa_cons pe_int (pa_cons (pe_gint C.MOST_PERIOD) pa_nil)))))) (pw_or1 (pt_not (pt_val (pe_h h_is_number (hr.mono (by decide)) (pa_cons (pv 1) (pa_cons pe_int (pa_cons (pv 2) pa_nil))))))))) (pss_one (ps_ret pe_bl)) pss_nil)
      (pss_one (ps_ret (pe_cmpR op_eq (pe_callBfun cr_gcd (by rfl) B.g_gcd (pa_cons (pv 1) (pa_cons (pv 2) pa_nil))) pe_int (nomark _))))))), ?_⟩
  refine ⟨_, rfl, _, _, _, _, _, rfl, .ty "tuple", .base (.tup ht), kit_ty (r := true) (by decide +kernel), true, rfl, ?_⟩
  refine iteF ⟨_, rfl, t, _, rfl, .inr (SqT.of ht), rfl, _, rfl, iteF ?_⟩
  refine ⟨_, rfl, t, _, rfl, SqT.of ht, rfl, _, _, rfl, _, _, rfl, rfl, ?_⟩
  refine ⟨_, rfl, _, _, _, rfl, _, rfl, ?_⟩
  have c1 : decide ((1 : Int) ≤ (p : Int) ∧ (p : Int) ≤ 16) = true := decide_eq_true (by omega)
  have c2 : decide ((1 : Int) ≤ (e : Int) ∧ (e : Int) ≤ (p : Int)) = true := decide_eq_true (by omega)
  rw [c1]
  refine iteF ⟨_, rfl, _, rfl, _, _, _, rfl, _, rfl, ?_⟩
  rw [c2]
  refine iteF ⟨_, rfl, _, rfl, _, _, rfl, rfl, ?_⟩
  have e1 : ((Nat.gcd ((e : Int)).natAbs ((p : Int)).natAbs : Nat) : Int) = 1 := by simp [p4]
  rw [e1]; exact q
end
end Ts
namespace Ts
open PySem PySem.Spec PyProof.Rows L2
section
variable {P : Program} {w : World} {K : PySem.W.Frag} {mg : Str → Option Value} {base : Heap}
theorem has_read_number (D : DefAt K mg "_read_number" s__read_number) (B : Blt mg) : Has P w K mg base 1 "_read_number" ["word", "most"] spReadNumber := by
  refine D.has (fun _ _ _ _ _ _ us hl => match us, hl with | [_, _], _ => rfl) fun f fd F => F.ok sc__read_number (fun vs H Q E h => ?_) (fun cdv A outer s H vs Q E hr h => ?_)
  · obtain ⟨n, m, rfl, _⟩ := h; rfl
  obtain ⟨n, m, rfl, n1, nm, m1, q⟩ := h
  refine ⟨_, (pss_cons (ps_for PassesOwn.never rfl (pi_range2 (by rfl) B.zrange (pa_cons pe_int (pa_cons (pe_op op_add (pv 1) pe_int) pa_nil))) (pg_name (i := 2) sc__read_number.nd rfl (.inl rfl)) (pss_one (ps_if (pt_cmpR op_eq (pv 0) (pe_callTy call_str_int (by rfl) B.zstr (by decide +kernel) (pa_cons (pv 2) pa_nil)) (nomark _)) (pss_one (ps_ret (pv 2))) pss_nil)))
      (pss_one (ps_ret pe_non))), ?_⟩
  refine ⟨_, rfl, _, _, rfl, rfl, 1, (m : Int) + 1, rfl, ⟨by omega, by omega, by omega, by omega⟩, for_range (lo := 1) (n := ((m : Int) + 1 - 1).toNat) (fun i σ H' => H' = H ∧ i < n ∧ ∃ v, σ = [some (.str (numS n)), some (.int m), v]) ⟨rfl, by omega, _, rfl⟩ ?_ ?_⟩
  · rintro i σ H' hi ⟨rfl, hin, v, rfl⟩
    have ec : (1 : Int) + (i : Int) = ((1 + i : Nat) : Int) := by omega
    refine ⟨_, rfl, _, rfl, _, rfl, num_okI (by omega) (by omega), rfl, _, rfl, ite2 (fun c => ?_) (fun c => ?_)⟩
    · have e : numS n = numS (1 + i) := by
        have := of_decide_eq_true c
        rw [ec] at this
        exact V.str.inj this
      have e2 := numS_inj e
      refine ⟨_, rfl, ?_⟩
      show Q (V.int ((1 : Int) + (i : Int))) _
      rw [ec, ← e2]; exact q
    · refine ⟨rfl, ?_, _, rfl⟩
      have : n ≠ 1 + i := fun e => c (by
        refine decide_eq_true ?_
        rw [ec, ← e]; rfl)
      omega
  · rintro σ H' ⟨rfl, hin, v, rfl⟩
    omega
theorem has_read_hands (D : DefAt K mg "_read_hands" s__read_hands) (B : Blt mg) (C : Cst mg) (h__read_number : Has P w K mg base 1 "_read_number" ["word", "most"] spReadNumber) : Has P w K mg base 2 "_read_hands" ["row"] spReadHands := by
  refine D.has (fun _ _ _ _ _ _ us hl => match us, hl with | [_], _ => rfl) fun f fd F => F.ok sc__read_hands (fun vs H Q E h => ?_) (fun cdv A outer s H vs Q E hr h => ?_)
  · obtain ⟨n, rfl, _⟩ := h; rfl
  obtain ⟨n, rfl, n1, n6, q⟩ := h
  refine ⟨_, (pss_cons (ps_set (i := 1) sc__read_hands.nd rfl (.inl rfl) (pe_split (pv 0) pe_str))
      (pss_cons (ps_if (PW.pt (pw_or (pt_cmpR op_ne (pe_callB call_len_seq (by rfl) B.zlen (by decide +kernel) (pa_cons (pv 1) pa_nil)) pe_int (nomark _)) (pw_or1 (pt_cmpR op_ne (pe_ix ix_list (pv 1) pe_int (fun _ _ => rfl)) pe_str (nomark _))))) (pss_one (ps_ret pe_non)) pss_nil)
      (pss_one (ps_ret (pe_h h__read_number (hr.mono (by decide)) (pa_cons (pe_ix ix_list (pv 1) pe_int (fun _ _ => rfl)) (pa_cons (pe_gint C.MOST_HANDS) pa_nil))))))), ?_⟩
  have ln : (handsS n).length + 2 ≤ sizeLine := by
    have := numS_len (n := n) (by omega)
    have l6 : (Str.ofString "hands ").length = 6 := by decide
    refine Nat.le_of_lt (small1000 ?_)
    unfold handsS
    rw [Str.length_append, l6]; omega
  refine ⟨_, rfl, ⟨_, rfl⟩, _, _, rfl, rfl, by decide, ln, fun p hp => ?_⟩
  rw [hands_split]
  have s1 : Same H (upd H p (.lst ([Str.ofString "hands", numS n].map V.str))) := same_new hp
  have e1 : (upd H p (.lst ([Str.ofString "hands", numS n].map V.str))) p = some (.lst [.str (Str.ofString "hands"), .str (numS n)]) := upd_same
  generalize upd H p (.lst ([Str.ofString "hands", numS n].map V.str)) = H1 at s1 e1
  refine ⟨_, rfl, p, _, rfl, .inl (SqL.of e1), rfl, _, rfl, iteF ?_⟩
  refine ⟨_, rfl, p, _, 0, _, rfl, rfl, SqL.of e1, atI_nat (j := 0) rfl, rfl, _, rfl, iteNS rfl ?_⟩
  refine ⟨_, rfl, p, _, 1, _, rfl, rfl, SqL.of e1, atI_nat (j := 1) rfl, n, 6, rfl, n1, n6, by decide, q _ s1⟩
theorem has_read_work (D : DefAt K mg "_read_work" s__read_work) (B : Blt mg) (C : Cst mg) (h__read_number : Has P w K mg base 1 "_read_number" ["word", "most"] spReadNumber)
    (h_is_name : Has P w K mg base 1 "is_name" ["value"] spIsName) (h_is_share : Has P w K mg base 3 "is_share" ["value"] spIsShare) : Has P w K mg base 4 "_read_work" ["row"] spReadWork := by
  refine D.has (fun _ _ _ _ _ _ us hl => match us, hl with | [_], _ => rfl) fun f fd F => F.ok sc__read_work (fun vs H Q E h => ?_) (fun cdv A outer s H vs Q E hr h => ?_)
  · obtain ⟨j, rfl, _⟩ := h; rfl
  obtain ⟨j, rfl, ht, hg, q⟩ := h
  refine ⟨_, (pss_cons (ps_set (i := 1) sc__read_work.nd rfl (.inl rfl) (pe_split (pv 0) pe_str))
      (pss_cons (ps_if (PW.pt (pw_or (pt_cmpR op_ne (pe_callB call_len_seq (by rfl) B.zlen (by decide +kernel) (pa_cons (pv 1) pa_nil)) pe_int (nomark _)) (pw_or (pt_cmpR op_ne (pe_ix ix_list (pv 1) pe_int (fun _ _ => rfl)) pe_str (nomark _)) (pw_or1 (pt_not (pt_val (pe_h h_is_name (hr.mono (by decide)) (pa_cons (pe_ix ix_list (pv 1) pe_int (fun _ _ => rfl)) pa_nil)))))))) (pss_one (ps_ret pe_non)) pss_nil)
      (pss_cons (ps_set (i := 3) sc__read_work.nd rfl (.inl rfl) (pe_callTy call_tuple_of (by rfl) B.ztuple (by decide +kernel) (pa_cons (pe_lc (own := [("word", 2)]) rfl sc__read_work.nd (pi_list (pe_split (pe_ix ix_list (pv 1) pe_int (fun _ _ => rfl)) pe_str)) (blkOk_by (N := ["row", "words", "word", "share"]) (sc := defScope s__read_work) (own := [("word", 2)]) (by decide +kernel)) (fun _ _ _ _ _ => (pg_name (i := 2) sc__read_work.nd rfl (.inl rfl) (.inr rfl))) (fun _ _ _ _ _ => pts_nil) (fun _ _ _ _ _ => (pe_h h__read_number (hr.mono (by decide)) (pa_cons (pv 2) (pa_cons (pe_gint C.MOST_PERIOD) pa_nil))))) pa_nil)))
      (pss_cons (ps_if (pt_not (pt_val (pe_h h_is_share (hr.mono (by decide)) (pa_cons (pv 3) pa_nil)))) (pss_one (ps_ret pe_non)) pss_nil)
      (pss_one (ps_ret (pe_tup (pa_cons (pe_ix ix_list (pv 1) pe_int (fun _ _ => rfl)) (pa_cons (pv 3) pa_nil))))))))), ?_⟩
  have hg2 : GoodPart 1000 j.2.1 j.2.2 := ⟨hg.1, hg.2.1, Nat.le_trans hg.2.2.1 (by decide), hg.2.2.2⟩
  obtain ⟨g1, g2, g3, g4⟩ := id hg
  have ln : (rowS j).length + 2 ≤ sizeLine := Nat.le_of_lt (small1000 (by have := rowS_len ht hg2; omega))
  refine ⟨_, rfl, ⟨_, rfl⟩, _, _, rfl, rfl, by decide, ln, fun p hp => ?_⟩
  rw [row_split ht]
  generalize hw2 : Txt.join (Str.ofString "/") [numS j.2.1, numS j.2.2] = w2
  have s1 : Same H (upd H p (.lst ([Str.ofString "work", j.1, w2].map V.str))) := same_new hp
  have e1 : (upd H p (.lst ([Str.ofString "work", j.1, w2].map V.str))) p = some (.lst [.str (Str.ofString "work"), .str j.1, .str w2]) := upd_same
  generalize upd H p (.lst ([Str.ofString "work", j.1, w2].map V.str)) = H1 at s1 e1
  refine ⟨_, rfl, p, _, rfl, .inl (SqL.of e1), rfl, _, rfl, iteF ?_⟩
  refine ⟨_, rfl, p, _, 0, _, rfl, rfl, SqL.of e1, atI_nat (j := 0) rfl, rfl, _, rfl, iteNS rfl ?_⟩
  refine ⟨_, rfl, p, _, 1, _, rfl, rfl, SqL.of e1, atI_nat (j := 1) rfl, j.1, rfl, ht, fun H2 s2 => ⟨true, rfl, iteF ?_⟩⟩
  have e2 := s2 _ _ e1
  -- the share's two sides
  have l2 : w2.length + 2 ≤ sizeLine := by
    rw [← hw2, join_two, Str.length_append, Str.length_append]
    have a := numS_len (n := j.2.1) (by omega)
    have b := numS_len (n := j.2.2) (by omega)
    have c : (Str.ofString "/").length = 1 := by decide
    exact Nat.le_of_lt (small1000 (by omega))
  refine ⟨_, rfl, p, _, 2, _, rfl, rfl, SqL.of e2, atI_nat (j := 2) rfl, ⟨_, rfl⟩, _, _, rfl, rfl, by decide, l2, fun p3 hp3 => ?_⟩
  rw [← hw2, part_split]
  have s3 : Same H2 (upd H2 p3 (.lst ([numS j.2.1, numS j.2.2].map V.str))) := same_new hp3
  have e3 : (upd H2 p3 (.lst ([numS j.2.1, numS j.2.2].map V.str))) p3 = some (.lst [.str (numS j.2.1), .str (numS j.2.2)]) := upd_same
  generalize upd H2 p3 (.lst ([numS j.2.1, numS j.2.2].map V.str)) = H3 at s3 e3
  refine ⟨p3, rfl, ⟨_, SqL.of e3⟩, fun D4 hD4 => lc_list (K := K) (a := p3) (xs := [.str (numS j.2.1), .str (numS j.2.2)]) (fun i H4 => Same H3 H4 ∧ H4 D4 = some (.lst (([(j.2.1 : Int), (j.2.2 : Int)].take i).map V.int))) ⟨same_new hD4, upd_same⟩ (fun _ _ _ z => SqL.of (z.1 _ _ e3)) ?_ ?_⟩
  · rintro i x H4 hx ⟨s4, e4⟩
    match i, hx with
    | 0, hx =>
      obtain rfl : V.str (numS j.2.1) = x := Option.some.inj hx
      exact ⟨rfl, yesIf ⟨_, rfl, j.2.1, 16, rfl, g1, by omega, by decide, _, e4, by show 0 < sizeLine; decide, Same.app hD4 s4, upd_same⟩⟩
    | 1, hx =>
      obtain rfl : V.str (numS j.2.2) = x := Option.some.inj hx
      exact ⟨rfl, yesIf ⟨_, rfl, j.2.2, 16, rfl, by omega, g3, by decide, _, e4, by show 1 < sizeLine; decide, Same.app hD4 s4, upd_same⟩⟩
  rintro H4 ⟨s4, e4⟩
  have e4 : H4 D4 = some (.lst [.int (j.2.1 : Int), .int (j.2.2 : Int)]) := e4
  refine ⟨D4, _, rfl, .inl ⟨SqL.of e4, fun p5 hp5 => ?_⟩⟩
  have s5 : Same H4 (upd H4 p5 (.tup [.int (j.2.1 : Int), .int (j.2.2 : Int)])) := same_new hp5
  have e5 : (upd H4 p5 (.tup [.int (j.2.1 : Int), .int (j.2.2 : Int)])) p5 = some (.tup [.int (j.2.1 : Int), .int (j.2.2 : Int)]) := upd_same
  generalize upd H4 p5 (.tup [.int (j.2.1 : Int), .int (j.2.2 : Int)]) = H5 at s5 e5
  refine ⟨_, rfl, p5, _, _, rfl, e5, hg, true, rfl, iteF ?_⟩
  have e6 := s5 _ _ (s4 _ _ (s3 _ _ e2))
  refine ⟨_, rfl, p, _, 1, _, rfl, rfl, SqL.of e6, atI_nat (j := 1) rfl, _, rfl, by show 2 ≤ sizeLine; decide, fun p6 hp6 => ?_⟩
  exact q p6 p5 _ ((s1.trans (s2.trans (s3.trans (s4.trans s5)))).trans (same_new hp6)) upd_same (same_new hp6 _ _ e5)
end
end Ts
namespace Ts
open PySem PySem.Spec PyProof.Rows L2
section
variable {P : Program} {w : World} {K : PySem.W.Frag} {mg : Str → Option Value} {base : Heap}
theorem not_again {js : List Job} {i : Nat} {j y : Job} (h : (js.map (·.1)).Nodup) (hj : js[i]? = some j) (hy : y ∈ js.take i) (e : y.1 = j.1) : False := by
  have h2 : (js.take (i + 1)).map (·.1) = (js.take i).map (·.1) ++ [j.1] := map_take_succ _ hj
  have h3 : ((js.take (i + 1)).map (·.1)).Nodup := by rw [List.map_take]; exact h.sublist (List.take_sublist _ _)
  rw [h2] at h3
  exact (List.nodup_append.mp h3).2.2 y.1 (List.mem_map_of_mem hy) j.1 (by simp) e
theorem parts_cast (js : List Job) (t : Nat) : (js.map fun j => ((j.2.1 * (t / j.2.2) : Nat) : Int)).sum = ((partsN js t : Nat) : Int) := by
  unfold partsN
  induction js with
  | nil => rfl
  | cons j js ih =>
    rw [List.map_cons, List.map_cons, List.sum_cons, List.sum_cons, ih]
    omega
theorem has_read_works (D : DefAt K mg "_read_works" s__read_works) (B : Blt mg) (h__read_work : Has P w K mg base 4 "_read_work" ["row"] spReadWork) : Has P w K mg base 5 "_read_works" ["rows"] (spReadWorks K) := by
  refine D.has (fun _ _ _ _ _ _ us hl => match us, hl with | [_], _ => rfl) fun f fd F => F.ok sc__read_works (fun vs H Q E h => ?_) (fun cdv A outer s H vs Q E hr h => ?_)
  · obtain ⟨a, js, rfl, _⟩ := h; rfl
  obtain ⟨a, js, rfl, hS, G, hl, q⟩ := h
  have hu := hu_of hr
  refine ⟨_, (pss_cons (ps_set (i := 1) sc__read_works.nd rfl (.inl rfl) pe_dnewK)
      (pss_cons (ps_for PassesOwn.never rfl (pi_list (pv 0)) (pg_name (i := 2) sc__read_works.nd rfl (.inl rfl)) (pss_cons (ps_set (i := 3) sc__read_works.nd rfl (.inl rfl) (pe_h h__read_work (hr.mono (by decide)) (pa_cons (pv 2) pa_nil)))
      (pss_cons (ps_if (PW.pt (pw_or (pt_cmpR op_isN (pv 3) pe_non (nomark _)) (pw_or1 (pt_cmp (pc_din hu (pe_ix ix_tup (pv 3) pe_int (fun _ _ => rfl)) (pv 1)))))) (pss_one (ps_ret pe_non)) pss_nil)
      (pss_one (ps_dput hu (pv 1) (pe_ix ix_tup (pv 3) pe_int (fun _ _ => rfl)) (pe_ix ix_tup (pv 3) pe_int (fun _ _ => rfl)) rfl)))))
      (pss_one (ps_ret (pv 1))))), ?_⟩
  refine fun d hd => ?_
  have s1 : Same H (upd H d (.dK [])) := same_new hd
  have lx : ((js.map rowS).map V.str).length = js.length := by rw [List.length_map, List.length_map]
  refine ⟨_, rfl, a, rfl, ⟨_, s1.seq hS⟩, for_list (K := K) (a := a) (xs := (js.map rowS).map V.str) (fun i σ H2 => Same H H2 ∧ ∃ (kvs : List (Key × V)) (v1 v2 : Option V), H2 d = some (.dK kvs) ∧ KvsOf K (hid d H2) kvs (js.take i) ∧ σ = [some (.ref a), some (.ref d), v1, v2])
    ⟨s1, [], _, _, upd_same, ⟨rfl, .nil⟩, rfl⟩ (fun _ _ _ _ z => z.1.seq hS) ?_ ?_⟩
  · rintro i x σ H2 hx ⟨sm, kvs, v1, v2, e2, ⟨k1, k2⟩, rfl⟩
    obtain ⟨j, hj, rfl⟩ : ∃ j, js[i]? = some j ∧ x = .str (rowS j) := by
      rw [List.map_map, List.getElem?_map] at hx
      cases e : js[i]? with
      | none => rw [e] at hx; cases hx
      | some j => rw [e] at hx; exact ⟨j, rfl, (Option.some.inj hx).symm⟩
    have hjm : j ∈ js := List.mem_of_getElem? hj
    have hil : i < js.length := (List.getElem?_eq_some_iff.mp hj).1
    refine ⟨_, rfl, j, rfl, G.tag j hjm, G.part j hjm, fun p pq H3 s3 ep eq => ?_⟩
    have e3 := s3 _ _ e2
    have npd : p ≠ d := ne_of ep e3 (by intro z; cases z)
    have nqd : pq ≠ d := ne_of eq e3 (by intro z; cases z)
    -- is it none, or there already
    refine ⟨_, rfl, rfl, _, rfl, iteF ?_⟩
    have kl : kvs.length = i := by
      have := congrArg List.length k1
      rw [List.length_map, List.length_map, List.length_take] at this
      omega
    have hnew : valV kvs (Sum.inr j.1 : Key) = none := by
      cases z : valV kvs (Sum.inr j.1 : Key) with
      | none => rfl
      | some v =>
        have hm := valV_in z
        rw [k1] at hm
        obtain ⟨y, hy, e⟩ := List.mem_map.mp hm
        exact (not_again G.nd hj hy (Sum.inr.inj e)).elim
    refine ⟨_, rfl, p, _, 0, _, rfl, rfl, SqT.of ep, atI_nat (j := 0) rfl, _, rfl, d, _, rfl, DGet.k (k := Sum.inr j.1) e3, _, rfl, ?_⟩
    rw [hnew]
    refine iteF ?_
    refine ⟨_, rfl, p, _, 1, _, rfl, rfl, SqT.of ep, atI_nat (j := 1) rfl, _, rfl, _, rfl, p, _, 0, _, rfl, rfl, SqT.of ep, atI_nat (j := 0) rfl, d, _, rfl, DPut.k (k := Sum.inr j.1) e3 (small1000 (by omega)), ?_⟩
    have s4 : Same H (upd H3 d (.dK (putK kvs (Sum.inr j.1) (.ref pq)))) := Same.app hd (sm.trans s3)
    refine ⟨s4, _, _, _, upd_same, ?_, rfl⟩
    rw [putK_new _ hnew]
    refine ⟨?_, ?_⟩
    · rw [List.map_append, k1, map_take_succ _ hj]; rfl
    · rw [List.map_append, map_take_succ _ hj]
      refine (k2.mono fun b o z => ?_).snoc ?_
      · obtain ⟨z1, z2⟩ := hid_some z
        rw [hid_ne z1, upd_ne z1]
        exact s3 _ _ z2
      · exact .tup (SqT.of (by rw [hid_ne nqd, upd_ne nqd]; exact eq)) (.cons (.int _) (.cons (.int _) .nil))
  · rintro σ H2 ⟨sm, kvs, v1, v2, e2, kk, rfl⟩
    rw [lx, List.take_length] at kk
    exact ⟨_, rfl, q d kvs H2 sm hd e2 ⟨kk.1, kk.2.mono hid_sub⟩⟩
theorem has_span_of (D : DefAt K mg "_span_of" s__span_of) (B : Blt mg) : Has P w K mg base 1 "_span_of" ["shares"] (spSpanOf K) := by
  refine D.has (fun _ _ _ _ _ _ us hl => match us, hl with | [_], _ => rfl) fun f fd F => F.ok sc__span_of (fun vs H Q E h => ?_) (fun cdv A outer s H vs Q E hr h => ?_)
  · obtain ⟨a, xs, js, rfl, _⟩ := h; rfl
  obtain ⟨a, xs, js, rfl, hS, hA, G, q⟩ := h
  refine ⟨_, (pss_cons (ps_set (i := 1) sc__span_of.nd rfl (.inl rfl) pe_int)
      (pss_cons (ps_for PassesOwn.never rfl (pi_tup (pv 0)) (pg_tup rfl (pgs_cons (pg_name (i := 2) sc__span_of.nd rfl (.inl rfl)) (pgs_cons (pg_name (i := 3) sc__span_of.nd rfl (.inl rfl)) pgs_nil))) (pss_one (ps_set (i := 1) sc__span_of.nd rfl (.inl rfl) (pe_callBfun cr_lcm (by rfl) B.g_lcm (pa_cons (pv 1) (pa_cons (pv 3) pa_nil))))))
      (pss_one (ps_ret (pv 1))))), ?_⟩
  have lx : xs.length = js.length := by rw [hA.length]; exact List.length_map _
  refine ⟨_, rfl, a, rfl, ⟨_, hS⟩, for_tup (K := K) (a := a) (xs := xs) (fun i σ H2 => H2 = H ∧ ∃ (v1 v2 : Option V), σ = [some (.ref a), some (.int (spanN (js.take i))), v1, v2]) ⟨rfl, _, _, rfl⟩ (fun _ _ _ _ z => z.1 ▸ hS) ?_ ?_⟩
  · rintro i x σ H2 hx ⟨rfl, v1, v2, rfl⟩
    obtain ⟨d, hd, hv⟩ := hA.get hx
    unfold sharesD at hd
    rw [List.getElem?_map] at hd
    cases ej : js[i]? with
    | none => rw [ej] at hd; cases hd
    | some j =>
      rw [ej] at hd
      have ed : partD j.2.1 j.2.2 = d := Option.some.inj hd
      subst ed
      obtain ⟨b, ys, rfl, hb, hy⟩ := hv.tuple
      obtain ⟨y1, y2, rfl, h1, h2⟩ := hy.two
      have hjm : j ∈ js := List.mem_of_getElem? ej
      obtain ⟨g1, g2, g3, _⟩ := G.part j hjm
      have gt : Good 16 (js.take i) := ⟨by rw [List.map_take]; exact G.nd.sublist (List.take_sublist _ _), fun k hk => G.tag k (List.mem_of_mem_take hk), fun k hk => G.part k (List.mem_of_mem_take hk)⟩
      have sl := span_le gt
      have en : spanN (js.take (i + 1)) = Nat.lcm (spanN (js.take i)) j.2.2 := by
        unfold spanN
        rw [List.take_add_one, ej, List.foldl_append]; rfl
      refine ⟨b, _, rfl, hb, rfl, _, _, rfl, _, _, rfl, rfl, _, rfl, _, rfl, spanN (js.take i), j.2.2, ?_, by omega, by omega, rfl, some y1, some y2, ?_⟩
      · rw [h2.int_eq]
      · rw [en]; rfl
  · rintro σ H2 ⟨rfl, v1, v2, rfl⟩
    rw [lx, List.take_length]
    exact ⟨_, rfl, q _ (Same.refl _)⟩
theorem has_total_of (D : DefAt K mg "_total_of" s__total_of) (B : Blt mg) : Has P w K mg base 1 "_total_of" ["shares", "span"] (spTotalOf K) := by
  refine D.has (fun _ _ _ _ _ _ us hl => match us, hl with | [_, _], _ => rfl) fun f fd F => F.ok sc__total_of (fun vs H Q E h => ?_) (fun cdv A outer s H vs Q E hr h => ?_)
  · obtain ⟨a, xs, js, rfl, _⟩ := h; rfl
  obtain ⟨a, xs, js, rfl, hS, hA, G, hl, q⟩ := h
  refine ⟨_, (pss_cons (ps_set (i := 4) sc__total_of.nd rfl (.inl rfl) (pe_callB (cr_sum rfl) (by rfl) B.zsum (by decide +kernel) (pa_cons (pe_lc (own := [("top", 2), ("bottom", 3)]) rfl sc__total_of.nd (pi_tup (pv 0)) (blkOk_by (N := ["shares", "span", "top", "bottom", "parts", "common"]) (sc := defScope s__total_of) (own := [("top", 2), ("bottom", 3)]) (by decide +kernel)) (fun _ _ _ _ _ => (pg_tupK (K := K) (n := 2) rfl rfl (pgs_cons (pg_name (i := 2) sc__total_of.nd rfl (.inl rfl) (.inr rfl)) (pgs_cons (pg_name (i := 3) sc__total_of.nd rfl (.inl rfl) (.inr rfl)) pgs_nil)))) (fun _ _ _ _ _ => pts_nil) (fun _ _ _ _ _ => (pe_op op_mul (pv 2) (pe_op op_fdiv (pv 1) (pv 3))))) pa_nil)))
      (pss_cons (ps_set (i := 5) sc__total_of.nd rfl (.inl rfl) (pe_callBfun cr_gcd (by rfl) B.g_gcd (pa_cons (pv 4) (pa_cons (pv 1) pa_nil))))
      (pss_one (ps_ret (pe_tup (pa_cons (pe_op op_fdiv (pv 4) (pv 5)) (pa_cons (pe_op op_fdiv (pv 1) (pv 5)) pa_nil))))))), ?_⟩
  have lx : xs.length = js.length := by rw [hA.length]; exact List.length_map _
  have sp := span_pos G
  have sl := span_le G
  refine ⟨_, rfl, a, rfl, ⟨_, hS⟩, fun D2 hD => lc_tup (K := K) (a := a) (xs := xs) (fun i H2 => Same H H2 ∧ H2 D2 = some (.lst (((js.take i).map fun j => ((j.2.1 * (spanN js / j.2.2) : Nat) : Int)).map V.int))) ⟨same_new hD, upd_same⟩ (fun _ _ _ z => sameT z.1 hS) ?_ ?_⟩
  · rintro i x H2 hx ⟨sm, e2⟩
    obtain ⟨d, hd, hv⟩ := hA.get hx
    unfold sharesD at hd
    rw [List.getElem?_map] at hd
    cases ej : js[i]? with
    | none => rw [ej] at hd; cases hd
    | some j =>
      rw [ej] at hd
      have ed : partD j.2.1 j.2.2 = d := Option.some.inj hd
      subst ed
      obtain ⟨b, ys, rfl, hb, hy⟩ := hv.tuple
      obtain ⟨y1, y2, rfl, h1, h2⟩ := hy.two
      have hjm : j ∈ js := List.mem_of_getElem? ej
      obtain ⟨g1, g2, g3, _⟩ := G.part j hjm
      have y1' := h1.int_eq
      have y2' := h2.int_eq
      subst y1' y2'
      have cd : CDiv (spanN js : Int) (j.2.2 : Int) := ⟨by omega, by omega⟩
      refine ⟨b, _, rfl, sameT sm hb, rfl, _, _, rfl, _, _, rfl, rfl, rfl, yesIf ?_⟩
      refine ⟨_, rfl, _, rfl, _, rfl, _, _, rfl, rfl, cd, _, _, rfl, rfl, .inl ⟨by omega, by omega⟩, _, e2, ?_, Same.app hD sm, ?_⟩
      · rw [List.length_map, List.length_map, List.length_take]
        exact small1000 (by omega)
      · rw [upd_same, map_take_succ _ ej, List.map_append]
        rfl
  · rintro H2 ⟨sm, e2⟩
    rw [lx, List.take_length] at e2
    have es : (js.map fun j => ((j.2.1 * (spanN js / j.2.2) : Nat) : Int)).sum = (partsN js (spanN js) : Int) := by
      exact parts_cast js _
    refine ⟨_, _, rfl, SqL.of e2, ?_⟩
    rw [es]
    have g0 : 0 < Nat.gcd (partsN js (spanN js)) (spanN js) := Nat.gcd_pos_of_pos_right _ sp
    have g1 : Nat.gcd (partsN js (spanN js)) (spanN js) ≤ spanN js := Nat.le_of_dvd sp (Nat.gcd_dvd_right _ _)
    have c1 : CDiv (partsN js (spanN js) : Int) ((Nat.gcd (partsN js (spanN js)) (spanN js) : Nat) : Int) := ⟨by omega, by omega⟩
    have c2 : CDiv (spanN js : Int) ((Nat.gcd (partsN js (spanN js)) (spanN js) : Nat) : Int) := ⟨by omega, by omega⟩
    refine ⟨_, rfl, _, rfl, _, _, rfl, ?_⟩
    refine ⟨_, rfl, _, rfl, _, _, rfl, rfl, c1, _, rfl, _, rfl, _, _, rfl, rfl, c2, by show 2 ≤ sizeLine; decide, fun p hp => ?_⟩
    exact q p _ (sm.trans (same_new hp)) (sm.free hp) upd_same
end
end Ts
namespace Ts
open PySem PySem.Spec PyProof.Rows L2
section
variable {P : Program} {w : World} {K : PySem.W.Frag} {mg : Str → Option Value} {base : Heap}
theorem ok_init {f C : Addr} {fd : FuncData} (F : Fun K "__init__" "Lot.__init__" s_Lot___init__ f fd) (T : LotC K mg C) (B : Blt mg) (C2 : Cst mg) (h__read_hands : Has P w K mg base 2 "_read_hands" ["row"] spReadHands) (h__read_works : Has P w K mg base 5 "_read_works" ["rows"] (spReadWorks K))
    (h__span_of : Has P w K mg base 1 "_span_of" ["shares"] (spSpanOf K)) (h__total_of : Has P w K mg base 1 "_total_of" ["shares", "span"] (spTotalOf K)) : FnOk P w K mg base CX0 6 f fd ["self", "text"] (spInit K C) := by
  refine F.ok sc_Lot___init__ (fun vs H Q E h => ?_) (fun cdv A outer s H vs Q E hr h => ?_)
  · obtain ⟨a, dx, n, js, rfl, _⟩ := h; rfl
  obtain ⟨a, dx, n, js, rfl, ha, n1, n6, G, l0, l6, q⟩ := h
  refine ⟨_, (pss_cons (ps_if (pt_not (pt_val (pe_callB call_isi (by rfl) B.zisinstance (by decide +kernel) (pa_cons (pv 1) (pa_cons (pe_ty "str" B.zstr) pa_nil))))) (pss_one ps_never) pss_nil)
      (pss_cons (ps_asg (pe_split (pv 1) pe_str) (pg_star (i := 2) (j := 3) rfl sc_Lot___init__.nd rfl rfl rfl rfl))
      (pss_cons (ps_set (i := 4) sc_Lot___init__.nd rfl (.inl rfl) (pe_h h__read_hands (hr.mono (by decide)) (pa_cons (pv 2) pa_nil)))
      (pss_cons (ps_set (i := 5) sc_Lot___init__.nd rfl (.inl rfl) (pe_h h__read_works (hr.mono (by decide)) (pa_cons (pv 3) pa_nil)))
      (pss_cons (ps_if (PW.pt (pw_or (pt_cmpR op_isN (pv 4) pe_non (nomark _)) (pw_or (pt_cmpR op_isN (pv 5) pe_non (nomark _)) (pw_or1 (pt_not (pt_chain op_le op_le pe_int (pe_callB call_lenD (by rfl) B.zlen (by decide +kernel) (pa_cons (pv 5) pa_nil)) (pe_gint C2.MOST_WORKS))))))) (pss_one ps_never) pss_nil)
      (pss_cons (ps_fld (pv 0) (pv 1) rfl)
      (pss_cons (ps_fld (pv 0) (pv 4) rfl)
      (pss_cons (ps_fld (pv 0) (pe_callTy (call_tuple_dK rfl) (by rfl) B.ztuple (by decide +kernel) (pa_cons (pv 5) pa_nil)) rfl)
      (pss_cons (ps_fld (pv 0) (pe_tupVals rfl (by rfl) B.ztuple (pv 5)) rfl)
      (pss_cons (ps_fld (pv 0) (pe_h h__span_of (hr.mono (by decide)) (pa_cons (pe_fld (pv 0) rfl) pa_nil)) rfl)
      (pss_one (ps_fld (pv 0) (pe_h h__total_of (hr.mono (by decide)) (pa_cons (pe_fld (pv 0) rfl) (pa_cons (pe_fld (pv 0) rfl) pa_nil))) rfl)))))))))))), ?_⟩
  have G2 := G.mono (show 16 ≤ 1000 by decide)
  refine ⟨_, rfl, _, _, _, _, _, rfl, .ty "str", .base (.str _), kit_ty (r := true) (by decide +kernel), true, rfl, iteF ?_⟩
  -- the rows
  refine ⟨_, rfl, ⟨_, rfl⟩, _, _, rfl, rfl, by decide, Nat.le_of_lt (small1000 (page_len (by omega) G2 (by omega))), fun p hp => ?_⟩
  rw [show Txt.split (pageS n js) (Str.ofString "\n") = rowsOf n js from page_split G.tag]
  have s1 : Same H (upd H p (.lst ((rowsOf n js).map V.str))) := same_new hp
  have e1 : (upd H p (.lst ((rowsOf n js).map V.str))) p = some (.lst (.str (handsS n) :: (js.map rowS).map V.str)) := upd_same
  generalize upd H p (.lst ((rowsOf n js).map V.str)) = H1 at s1 e1
  refine ⟨p, _, _, rfl, SqL.of e1, by rw [List.length_map, List.length_map]; omega, fun p2 hp2 => ?_⟩
  have s2 : Same H1 (upd H1 p2 (.lst ((js.map rowS).map V.str))) := same_new hp2
  have e2 : (upd H1 p2 (.lst ((js.map rowS).map V.str))) p2 = some (.lst ((js.map rowS).map V.str)) := upd_same
  generalize upd H1 p2 (.lst ((js.map rowS).map V.str)) = H2 at s2 e2
  -- hands, works
  refine ⟨_, rfl, n, rfl, n1, n6, fun H3 s3 => ?_⟩
  refine ⟨_, rfl, p2, js, rfl, SqL.of (s3 _ _ e2), G, by omega, fun d kvs H4 s4 hd4 e4 ⟨k1, k2⟩ => ?_⟩
  have kl : kvs.length = js.length := by
    have := congrArg List.length k1
    rw [List.length_map, List.length_map] at this; exact this
  have s04 : Same H H4 := s1.trans (s2.trans (s3.trans s4))
  refine ⟨_, rfl, rfl, _, rfl, iteF ⟨_, rfl, rfl, _, rfl, iteF ?_⟩⟩
  refine ⟨_, rfl, d, kvs, rfl, e4, _, _, rfl, rfl, _, rfl, ?_⟩
  have c1 : decide ((1 : Int) ≤ (kvs.length : Int)) = true := decide_eq_true (by omega)
  have c2 : decide ((kvs.length : Int) ≤ 6) = true := decide_eq_true (by omega)
  rw [c1]
  refine iteT ⟨_, _, rfl, rfl, _, rfl, ?_⟩
  rw [c2]
  refine iteF ?_
  -- the fields
  have few : ∀ fs : List (Str × V), fs.length ≤ 6 → fs.length < 1000 := fun _ h => by omega
  have f0 : (([] : List (Str × V))).length ≤ 0 := Nat.le_refl _
  have f1 := putF_len "_text" (.str (pageS n js)) []
  have nda : d ≠ a := fun e => by rw [e] at hd4; exact absurd (s1.trans (s2.trans s3) _ _ ha) (by rw [hd4]; exact fun z => nomatch z)
  refine ⟨_, rfl, _, rfl, a, C, dx, _, rfl, s04 _ _ ha, T.cl, T.n1, by show 0 < 1000; decide, ?_⟩
  have b5 : But a H4 (upd H4 a (.ins C dx (putF "_text" (.str (pageS n js)) []))) := But.set
  have e5 : (upd H4 a (.ins C dx (putF "_text" (.str (pageS n js)) []))) a = some (.ins C dx (putF "_text" (.str (pageS n js)) [])) := upd_same
  generalize upd H4 a (.ins C dx (putF "_text" (.str (pageS n js)) [])) = H5 at b5 e5
  refine ⟨_, rfl, _, rfl, a, C, dx, _, rfl, e5, T.cl, T.n2, few _ (by omega), ?_⟩
  have f2 := putF_len "_hands" (.int n) (putF "_text" (.str (pageS n js)) [])
  have b6 : But a H5 (upd H5 a (.ins C dx (putF "_hands" (.int n) (putF "_text" (.str (pageS n js)) [])))) := But.set
  have e6 : (upd H5 a (.ins C dx (putF "_hands" (.int n) (putF "_text" (.str (pageS n js)) [])))) a = some (.ins C dx (putF "_hands" (.int n) (putF "_text" (.str (pageS n js)) []))) := upd_same
  generalize upd H5 a (.ins C dx (putF "_hands" (.int n) (putF "_text" (.str (pageS n js)) []))) = H6 at b6 e6
  generalize hF2 : putF "_hands" (.int n) (putF "_text" (.str (pageS n js)) []) = F2 at f2 e6
  have b46 := b5.trans b6
  -- tuple(works)
  have ed6 := b46 _ _ nda e4
  refine ⟨_, rfl, d, kvs, rfl, ed6, fun pn ob hpn ob1 ob2 => ?_⟩
  have nmap : (kvs.map fun kv => kV kv.1) = js.map (fun j => V.str j.1) := by
    have := congrArg (List.map kV) k1
    rw [List.map_map, List.map_map] at this
    exact this
  rw [nmap]
  have s7 : Same H6 (upd H6 pn (.frz ob (.tup (js.map fun j => V.str j.1)))) := same_new hpn
  have en7 : (upd H6 pn (.frz ob (.tup (js.map fun j => V.str j.1)))) pn = some (.frz ob (.tup (js.map fun j => V.str j.1))) := upd_same
  generalize upd H6 pn (.frz ob (.tup (js.map fun j => V.str j.1))) = H7 at s7 en7
  refine ⟨_, rfl, a, C, dx, _, rfl, s7 _ _ e6, T.cl, T.n3, few _ (by omega), ?_⟩
  have f3 := putF_len "_names" (.ref pn) F2
  have b8 : But a H7 (upd H7 a (.ins C dx (putF "_names" (.ref pn) F2))) := But.set
  have e8 : (upd H7 a (.ins C dx (putF "_names" (.ref pn) F2))) a = some (.ins C dx (putF "_names" (.ref pn) F2)) := upd_same
  have npn : pn ≠ a := ne_of en7 (s7 _ _ e6) (by intro z; cases z)
  generalize upd H7 a (.ins C dx (putF "_names" (.ref pn) F2)) = H8 at b8 e8
  generalize hF3 : putF "_names" (.ref pn) F2 = F3 at f3 e8
  have b48 := (b46.trans (But.of_same s7)).trans b8
  have en8 := b8 _ _ npn en7
  -- tuple(works.values())
  refine ⟨_, rfl, d, kvs, rfl, b48 _ _ nda e4, fun ps hps => ?_⟩
  have s9 : Same H8 (upd H8 ps (.tup (kvs.map (·.2)))) := same_new hps
  have es9 : (upd H8 ps (.tup (kvs.map (·.2)))) ps = some (.tup (kvs.map (·.2))) := upd_same
  generalize upd H8 ps (.tup (kvs.map (·.2))) = H9 at s9 es9
  refine ⟨_, rfl, a, C, dx, _, rfl, s9 _ _ e8, T.cl, T.n4, few _ (by omega), ?_⟩
  have f4 := putF_len "_shares" (.ref ps) F3
  have b10 : But a H9 (upd H9 a (.ins C dx (putF "_shares" (.ref ps) F3))) := But.set
  have e10 : (upd H9 a (.ins C dx (putF "_shares" (.ref ps) F3))) a = some (.ins C dx (putF "_shares" (.ref ps) F3)) := upd_same
  have nps : ps ≠ a := ne_of es9 (s9 _ _ e8) (by intro z; cases z)
  generalize upd H9 a (.ins C dx (putF "_shares" (.ref ps) F3)) = H10 at b10 e10
  have l4 : (putF "_shares" (.ref ps) F3).lookup ("_shares" : Str) = some (.ref ps) := by rw [lookup_putF, if_pos rfl]
  generalize hF4 : putF "_shares" (.ref ps) F3 = F4 at f4 e10 l4
  have b410 := (b48.trans (But.of_same s9)).trans b10
  have en10 := b10 _ _ npn (s9 _ _ en8)
  have es10 := b10 _ _ nps es9
  have hk4 : DpAll K (hid a H4) (kvs.map (·.2)) (sharesD js) := DpAll.hide (s04 _ _ ha) NoSeq.ins k2
  -- the round
  refine ⟨_, rfl, a, C, dx, _, _, rfl, e10, T.cl, T.n4, l4, ps, _, js, rfl, SqT.of es10, (hk4.mono b410.hid).mono hid_sub, G, fun H11 s11 => ?_⟩
  refine ⟨_, rfl, a, C, dx, _, rfl, s11 _ _ e10, T.cl, T.n5, few _ (by omega), ?_⟩
  have f5 := putF_len "_span" (.int (spanN js)) F4
  have b12 : But a H11 (upd H11 a (.ins C dx (putF "_span" (.int (spanN js)) F4))) := But.set
  have e12 : (upd H11 a (.ins C dx (putF "_span" (.int (spanN js)) F4))) a = some (.ins C dx (putF "_span" (.int (spanN js)) F4)) := upd_same
  generalize upd H11 a (.ins C dx (putF "_span" (.int (spanN js)) F4)) = H12 at b12 e12
  have l5 : (putF "_span" (.int (spanN js)) F4).lookup ("_span" : Str) = some (.int (spanN js)) := by rw [lookup_putF, if_pos rfl]
  have l6' : (putF "_span" (.int (spanN js)) F4).lookup ("_shares" : Str) = some (.ref ps) := by rw [lookup_putF, if_neg (by decide +kernel)]; exact l4
  generalize hF5 : putF "_span" (.int (spanN js)) F4 = F5 at f5 e12 l5 l6'
  have b412 := (b410.trans (But.of_same s11)).trans b12
  have en12 := b12 _ _ npn (s11 _ _ en10)
  have es12 := b12 _ _ nps (s11 _ _ es10)
  -- the sum
  refine ⟨_, rfl, a, C, dx, _, _, rfl, e12, T.cl, T.n4, l6', _, rfl, a, C, dx, _, _, rfl, e12, T.cl, T.n5, l5, ps, _, js, rfl, SqT.of es12, (hk4.mono b412.hid).mono hid_sub, G, by omega, fun pt H13 s13 hpt et => ?_⟩
  refine ⟨_, rfl, a, C, dx, _, rfl, s13 _ _ e12, T.cl, T.n6, few _ (by omega), ?_⟩
  have e13 := s13 _ _ e12
  have npt : pt ≠ a := ne_of et e13 (by intro z; cases z)
  have b14 : But a H4 (upd H13 a (.ins C dx (putF "_total" (.ref pt) F5))) := (b412.trans (But.of_same s13)).trans But.set
  refine q _ ((But.of_same s04).trans b14) ⟨dx, pn, ps, pt, ?_, ?_, ?_, ?_⟩
  · rw [upd_same, ← hF5, ← hF4, ← hF3, ← hF2]; rfl
  · have enf : (upd H13 a (.ins C dx (putF "_total" (.ref pt) F5))) pn = some (.frz ob (.tup (js.map fun j => V.str j.1))) := by rw [upd_ne npn]; exact s13 _ _ en12
    exact ⟨ob, enf, ob1, ob2⟩
  · have esf : (upd H13 a (.ins C dx (putF "_total" (.ref pt) F5))) ps = some (.tup (kvs.map (·.2))) := by rw [upd_ne nps]; exact s13 _ _ es12
    exact .tup (SqT.of esf) ((hk4.mono b14.hid).mono hid_sub)
  · have etf : (upd H13 a (.ins C dx (putF "_total" (.ref pt) F5))) pt = some (.tup [.int (totTop js : Int), .int (totBot js : Int)]) := by rw [upd_ne npt]; exact et
    exact .tup (SqT.of etf) (.cons (.int _) (.cons (.int _) .nil))
end
end Ts
namespace Ts
open PySem PySem.Spec PyProof.Rows L2
section
variable {P : Program} {w : World} {K : PySem.W.Frag} {mg : Str → Option Value} {base : Heap}
theorem has_check_lot {C : Addr} (D : DefAt K mg "check_lot" s_check_lot) (B : Blt mg) (T : LotC K mg C) (I : LotI K C) : Has P w K mg base 1 "check_lot" ["lot"] (spCheck C) := by
  refine D.has (fun _ _ _ _ _ _ us hl => match us, hl with | [_], _ => rfl) fun f fd F => F.ok sc_check_lot (fun vs H Q E h => ?_) (fun cdv A outer s H vs Q E hr h => ?_)
  · obtain ⟨a, dx, fs, rfl, _⟩ := h; rfl
  obtain ⟨a, dx, fs, rfl, ha, q⟩ := h
  refine ⟨_, (pss_one (ps_if (pt_not (pt_val (pe_callB call_isi (by rfl) B.zisinstance (by decide +kernel) (pa_cons (pv 0) (pa_cons (pe_gref T.mgC) pa_nil))))) (pss_one ps_never) pss_nil)), ?_⟩
  exact ⟨_, rfl, _, _, _, _, _, rfl, .own C, .base (.ins ha T.cl I.ha I.hn I.htk I.hm), kit_self, true, rfl, iteF q⟩
end
end Ts
namespace Ts
open PySem PySem.Spec PyProof.Rows L2
section
variable {P : Program} {w : World} {K : PySem.W.Frag} {mg : Str → Option Value} {base : Heap}
theorem has_check_round {C : Addr} (D : DefAt K mg "check_round" s_check_round) (T : LotC K mg C) (MR : ∃ t, mg "MOST_ROUND" = some (.int 720 t)) (p_span : PropH P w K mg base C "span" "_span") : Has P w K mg base 3 "check_round" ["lot"] (spCheckRound K C) := by
  refine D.has (fun _ _ _ _ _ _ us hl => match us, hl with | [_], _ => rfl) fun f fd F => F.ok sc_check_round (fun vs H Q E h => ?_) (fun cdv A outer s H vs Q E hr h => ?_)
  · obtain ⟨a, n, js, rfl, _⟩ := h; rfl
  obtain ⟨a, n, js, rfl, L, hs, q⟩ := h
  refine ⟨_, (pss_one (ps_if (pt_cmpR op_gt (pe_ph p_span T.cl (hr.mono (by decide)) (pv 0)) (pe_gint MR) (nomark _)) (pss_one ps_never) pss_nil)), ?_⟩
  obtain ⟨dx, pn, ps, pt, ha, _⟩ := L.ex
  refine ⟨_, rfl, lot_get ha lot_span ?_⟩
  exact ⟨_, _, rfl, rfl, _, rfl, ite2 (fun c => absurd (of_decide_eq_true c : (720 : Int) < (spanN js : Int)) (by omega)) (fun _ => q)⟩
end
end Ts
namespace Ts
open PySem PySem.Spec PyProof.Rows L2 L2H LamX
section
variable {P : Program} {w : World} {K : PySem.W.Frag} {mg : Str → Option Value} {base : Heap}
theorem has_is_number_fromA (D : DefAt K mg "is_number_from" s_is_number_from) (B : Blt0 mg) : Has P w K mg base 1 "is_number_from" ["value", "low"] (spIsNumberFromA K) := by
  refine D.has (fun _ _ _ _ _ _ us hl => match us, hl with | [_, _], _ => rfl) fun f fd F => F.ok sc_is_number_from (fun vs H Q E h => ?_) (fun cdv A outer s H vs Q E hr h => ?_)
  · obtain ⟨v, lo, o, rfl, _⟩ := h; rfl
  obtain ⟨v, lo, o, rfl, hv, q⟩ := h
  refine ⟨_, (pss_one (ps_ret (pe_and (pe_callB call_isi (by rfl) B.zisinstance (by decide +kernel) (pa_cons (pv 0) (pa_cons (pe_ty "int" B.zint) pa_nil))) (pe_and (pe_not (pe_callB call_isi (by rfl) B.zisinstance (by decide +kernel) (pa_cons (pv 0) (pa_cons (pe_ty "bool" B.zbool) pa_nil)))) (pe_one (pe_cmpR op_le (pv 1) (pv 0) (nomark _))))))), ?_⟩
  cases o with
  | some i =>
    cases hv
    refine ⟨_, rfl, _, _, _, _, _, rfl, .ty "int", .base (.int i), kit_ty (r := true) (by decide +kernel), true, rfl, ?_⟩
    refine iteT ⟨_, rfl, _, _, _, _, _, rfl, .ty "bool", .base (.int i), kit_ty (r := false) (by decide +kernel), false, rfl, true, rfl, ?_⟩
    exact iteT ⟨_, rfl, _, rfl, _, _, rfl, rfl, q⟩
  | none =>
    obtain ⟨T, hT, ht⟩ := hv
    by_cases tb : T = "bool"
    · subst tb
      refine ⟨_, rfl, _, _, _, _, _, rfl, .ty "int", ht, kit_ty (r := true) (by decide +kernel), true, rfl, ?_⟩
      exact iteT ⟨_, rfl, _, _, _, _, _, rfl, .ty "bool", ht, kit_ty (r := true) (by decide +kernel), true, rfl, false, rfl, iteF q⟩
    · have k : PySem.W.kitOne K (.type T) (.type "int") = some false := by
        have go : ∀ T ∈ ["bool", "str", "NoneType", "list", "tuple", "dict"], T ≠ "bool" → kitB T "int" = some false := by decide +kernel
        exact kit_ty (go T hT tb)
      exact ⟨_, rfl, _, _, _, _, _, rfl, .ty "int", ht, k, false, rfl, iteF q⟩
theorem has_is_numberA (D : DefAt K mg "is_number" s_is_number) (B : Blt0 mg) (h_is_number_from : Has P w K mg base 1 "is_number_from" ["value", "low"] (spIsNumberFromA K)) : Has P w K mg base 2 "is_number" ["value", "low", "high"] (spIsNumberA K) := by
  refine D.has (fun _ _ _ _ _ _ us hl => match us, hl with | [_, _, _], _ => rfl) fun f fd F => F.ok sc_is_number (fun vs H Q E h => ?_) (fun cdv A outer s H vs Q E hr h => ?_)
  · obtain ⟨v, lo, hi, o, rfl, _⟩ := h; rfl
  obtain ⟨v, lo, hi, o, rfl, hv, q⟩ := h
  refine ⟨_, (pss_one (ps_ret (pe_and (pe_h h_is_number_from (hr.mono (by decide)) (pa_cons (pv 0) (pa_cons (pv 1) pa_nil))) (pe_one (pe_cmpR op_le (pv 0) (pv 2) (nomark _)))))), ?_⟩
  refine ⟨_, rfl, _, rfl, v, lo, o, rfl, hv, ?_⟩
  cases o with
  | none => exact ⟨false, rfl, iteF q⟩
  | some i =>
    cases hv
    refine ⟨decide (lo ≤ i), rfl, ite2 (fun c => ?_) (fun c => ?_)⟩
    · refine ⟨_, rfl, _, rfl, _, _, rfl, rfl, ?_⟩
      have e : decide (i ≤ hi) = inRg (some i) lo hi := by
        have := of_decide_eq_true c
        show decide (i ≤ hi) = decide (lo ≤ i ∧ i ≤ hi)
        by_cases z : i ≤ hi <;> simp [z, this]
      rw [← e] at q
      exact q
    · have e : inRg (some i) lo hi = false := decide_eq_false fun z => c (decide_eq_true z.1)
      rw [e] at q; exact q
end
end Ts
namespace Ts
open PySem PySem.Spec PyProof.Rows L2 L2H LamX
section
variable {P : Program} {w : World} {K : PySem.W.Frag} {mg : Str → Option Value} {base : Heap}
theorem has_is_kept (D : DefAt K mg "is_kept" s_is_kept) (B : Blt0 mg) : Has P w K mg base 1 "is_kept" ["share", "moment", "number"] (spIsKept K) := by
  refine D.has (fun _ _ _ _ _ _ us hl => match us, hl with | [_, _, _], _ => rfl) fun f fd F => F.ok sc_is_kept (fun vs H Q E h => ?_) (fun cdv A outer s H vs Q E hr h => ?_)
  · obtain ⟨v, e, p, t, a, rfl, _⟩ := h; rfl
  obtain ⟨v, e, p, t, a, rfl, ⟨q9, rfl, hS⟩, h1, h2, h3, h4, q⟩ := h
  refine ⟨_, (pss_cons (ps_asg (pv 0) (pg_tup rfl (pgs_cons (pg_name (i := 3) sc_is_kept.nd rfl (.inl rfl)) (pgs_cons (pg_name (i := 4) sc_is_kept.nd rfl (.inl rfl)) pgs_nil))))
      (pss_one (ps_ret (pe_cmpR op_lt (pe_callB call_abs (by rfl) B.zabs (by decide +kernel) (pa_cons (pe_op op_sub (pe_op op_mul (pv 2) (pv 4)) (pe_op op_mul (pv 1) (pv 3))) pa_nil)) (pv 4) (nomark _))))), ?_⟩
  refine ⟨_, rfl, q9, _, rfl, hS, rfl, _, _, rfl, _, _, rfl, rfl, ?_⟩
  exact ⟨_, rfl, _, rfl, _, _, rfl, rfl, .inl ⟨h3, h4⟩, _, rfl, _, rfl, _, _, rfl, rfl, .inl ⟨h1, h2⟩, _, _, rfl, rfl, _, rfl, _, rfl, _, _, rfl, rfl, q⟩
end
end Ts
namespace Ts
open PySem PySem.Spec PyProof.Rows L2 L2H LamX
section
variable {P : Program} {w : World} {K : PySem.W.Frag} {mg : Str → Option Value} {base : Heap}
theorem has_members (D : DefAt K mg "_are_members" s__are_members) (B : Blt0 mg) (h_is_number : Has P w K mg base 2 "is_number" ["value", "low", "high"] (spIsNumberA K)) : Has P w K mg base 3 "_are_members" ["value", "many", "most"] (spMembers K) := by
  refine D.has (fun _ _ _ _ _ _ us hl => match us, hl with | [_, _, _], _ => rfl) fun f fd F => F.ok sc__are_members (fun vs H Q E h => ?_) (fun cdv A outer s H vs Q E hr h => ?_)
  · obtain ⟨v, many, most, t, rfl, _⟩ := h; rfl
  obtain ⟨v, many, most, t, rfl, hv, q⟩ := h
  refine ⟨_, (pss_cons (ps_if (PW.pt (pw_or (pt_not (pt_val (pe_callB call_isi (by rfl) B.zisinstance (by decide +kernel) (pa_cons (pv 0) (pa_cons (pe_ty "tuple" B.ztuple) pa_nil))))) (pw_or1 (pt_cmpR op_gt (pe_callB call_len_seq (by rfl) B.zlen (by decide +kernel) (pa_cons (pv 0) pa_nil)) (pv 2) (nomark _))))) (pss_one (ps_ret pe_bl)) pss_nil)
      (pss_cons (ps_set (i := 3) sc__are_members.nd rfl (.inl rfl) pe_int)
      (pss_cons (ps_for PassesOwn.never rfl (pi_tup (pv 0)) (pg_name (i := 4) sc__are_members.nd rfl (.inl rfl)) (pss_cons (ps_if (pt_not (pt_val (pe_h h_is_number (hr.mono (by decide)) (pa_cons (pv 4) (pa_cons (pv 3) (pa_cons (pe_op op_sub (pv 1) pe_int) pa_nil)))))) (pss_one (ps_ret pe_bl)) pss_nil)
      (pss_one (ps_set (i := 3) sc__are_members.nd rfl (.inl rfl) (pe_op op_add (pv 4) pe_int)))))
      (pss_one (ps_ret pe_bl))))), ?_⟩
  cases t with
  | none =>
    obtain ⟨T, hT, ht⟩ := hv
    have k : PySem.W.kitOne K (.type T) (.type "tuple") = some false := by
      have go : ∀ T ∈ ["int", "bool", "str", "NoneType", "list", "dict"], kitB T "tuple" = some false := by decide +kernel
      exact kit_ty (go T hT)
    exact ⟨_, rfl, _, _, _, _, _, rfl, .ty "tuple", ht, k, false, rfl, iteT (iteT q)⟩
  | some os =>
    obtain ⟨p, xs, rfl, hT, hl, hx⟩ := hv
    have hS : SqT K H p xs := hT
    refine ⟨_, rfl, _, _, _, _, _, rfl, .ty "tuple", sqt_ty37 hT, kit_ty (r := true) (by decide +kernel), true, rfl, iteF ?_⟩
    have em : membersB many most (some os) = (decide ((os.length : Int) ≤ most) && ascB many os 0) := rfl
    rw [em] at q
    refine ⟨_, rfl, p, _, rfl, .inr hS, _, rfl, _, _, rfl, rfl, _, rfl, ?_⟩
    by_cases c : most < (xs.length : Int)
    · rw [decide_eq_false (show ¬ (os.length : Int) ≤ most by omega), Bool.false_and] at q
      rw [decide_eq_true c]
      exact iteT q
    · rw [decide_eq_true (show (os.length : Int) ≤ most by omega), Bool.true_and] at q
      rw [decide_eq_false c]
      refine iteF ?_
      dsimp only [L2.start, List.set]
      refine ⟨_, rfl, p, rfl, ⟨_, hS⟩, for_tup (K := K) (a := p) (xs := xs) (fun i σ Hn => Hn = H ∧ ∃ (least : Int) (v : Option V), ascB many (os.drop i) least = ascB many os 0 ∧ σ = [some (.ref p), some (.int many), some (.int most), some (.int least), v]) ⟨rfl, 0, _, rfl, rfl⟩ (fun _ _ _ _ z => by rw [z.1]; exact hS) ?_ ?_⟩
      · rintro i x σ Hn hx' ⟨rfl, least, v, hb, rfl⟩
        have il : i < os.length := by rw [← hl]; exact (List.getElem?_eq_some_iff.mp hx').1
        have ho : os[i]? = some os[i] := List.getElem?_eq_getElem il
        have hk := hx i x os[i] hx' ho
        rw [List.drop_eq_getElem_cons il] at hb
        generalize os[i] = o at *
        have eb : ascB many (o :: os.drop (i + 1)) least = (inRg o least (many - 1) && ascB many (os.drop (i + 1)) (o.getD 0 + 1)) := rfl
        rw [eb] at hb
        refine ⟨_, rfl, _, rfl, _, rfl, _, _, rfl, rfl, x, least, many - 1, o, rfl, hk, _, rfl, ?_⟩
        cases e1 : inRg o least (many - 1) with
        | true =>
          rw [e1, Bool.true_and] at hb
          cases o with
          | none => cases e1
          | some j =>
            cases hk
            exact iteF ⟨_, rfl, _, _, rfl, rfl, rfl, j + 1, _, hb, rfl⟩
        | false =>
          rw [e1, Bool.false_and] at hb
          rw [← hb] at q
          exact iteT q
      · rintro σ Hn ⟨rfl, least, v, hb, rfl⟩
        rw [hl, List.drop_length] at hb
        rw [← hb] at q
        exact q
end
end Ts
namespace Ts
open PySem PySem.Spec PyProof.Rows L2 L2H LamX
section
variable {P : Program} {w : World} {K : PySem.W.Frag} {mg : Str → Option Value} {base : Heap}
theorem has_are_kept (D : DefAt K mg "are_kept" s_are_kept) (B : Blt0 mg) (h_is_kept : Has P w K mg base 1 "is_kept" ["share", "moment", "number"] (spIsKept K)) : Has P w K mg base 2 "are_kept" ["shares", "moment", "had"] (spAreKept K) := by
  refine D.has (fun _ _ _ _ _ _ us hl => match us, hl with | [_, _, _], _ => rfl) fun f fd F => F.ok sc_are_kept (fun vs H Q E h => ?_) (fun cdv A outer s H vs Q E hr h => ?_)
  · obtain ⟨a, c, xs, js, t, ns, rfl, _⟩ := h; rfl
  obtain ⟨a, c, xs, js, t, ns, rfl, hS, hA, hc, l6, ln, t0, t1, hn, q⟩ := h
  refine ⟨_, (pss_one (ps_ret (pe_callB (call_allB rfl) (by rfl) B.zall (by decide +kernel) (pa_cons (pe_lc (own := [("share", 3), ("number", 4)]) rfl sc_are_kept.nd (pi_zipM (K := K) rfl (by rfl) B.zzip (pa_cons (pv 0) (pa_cons (pv 2) pa_nil))) (blkOk_by (N := ["shares", "moment", "had", "share", "number"]) (sc := defScope s_are_kept) (own := [("share", 3), ("number", 4)]) (by decide +kernel)) (fun _ _ _ _ _ => (pg_tupK (K := K) (n := 2) rfl rfl (pgs_cons (pg_name (i := 3) sc_are_kept.nd rfl (.inl rfl) (.inr rfl)) (pgs_cons (pg_name (i := 4) sc_are_kept.nd rfl (.inl rfl) (.inr rfl)) pgs_nil)))) (fun _ _ _ _ _ => pts_nil) (fun _ _ _ _ _ => (pe_h h_is_kept (hr.mono (by decide)) (pa_cons (pv 3) (pa_cons (pv 1) (pa_cons (pv 4) pa_nil)))))) pa_nil)))), ?_⟩
  have lx : xs.length = js.length := by rw [hA.length]; unfold sharesD; rw [List.length_map]
  have hn9 : js.length = min xs.length (ns.map V.int).length := by rw [List.length_map, lx, ln, Nat.min_self]
  refine ⟨_, rfl, _, rfl, a, c, xs, ns.map V.int, rfl, hS, hc, fun D hD => ?_⟩
  refine lc_it (walk_zipM hn9) (fun i Hm => Same H Hm ∧ Hm D = some (.lst (((keptM js t ns).take i).map V.bl))) ⟨same_new hD, upd_same⟩ (fun i Hm _ z => ⟨sameT z.1 hS, z.1.seq hc⟩) ?_ ?_
  · rintro i x Hm H' hi ⟨sm, em⟩ ⟨T, y, z, rfl, hT, rfl, ey, ez⟩
    dsimp only at ey ez
    rw [List.getElem?_map] at ez
    obtain ⟨m, hm, rfl⟩ : ∃ m, ns[i]? = some m ∧ V.int m = z := by
      cases e : ns[i]? with
      | none => rw [e] at ez; cases ez
      | some m => rw [e] at ez; exact ⟨m, rfl, Option.some.inj ez⟩
    have sT : Same H (upd Hm T (.tup [y, .int m])) := sm.trans (same_new hT)
    obtain ⟨j, q9, hj, rfl, hq⟩ := share_at (js := js) (hA.mono sT) ey
    have hm2 := hn m (List.mem_of_getElem? hm)
    have eD : (upd Hm T (.tup [V.ref q9, .int m])) D = some (.lst (((keptM js t ns).take i).map V.bl)) := same_new hT _ _ em
    refine ⟨T, _, rfl, SqT.of upd_same, rfl, _, _, rfl, _, _, rfl, rfl, rfl, yesIf ⟨_, rfl, _, rfl, _, rfl, _, _, _, t, m, rfl, ⟨q9, rfl, hq⟩, t0, t1, hm2.1, hm2.2, ?_⟩⟩
    refine ⟨_, eD, ?_, Same.app hD sT, ?_⟩
    · rw [List.length_map, List.length_take]; exact small1000 (by omega)
    · rw [upd_same, keptM_at hj hm, List.map_append]; rfl
  · rintro Hm ⟨sm, em⟩
    rw [← keptM_len (t := t) ln, List.take_length] at em
    exact ⟨D, _, rfl, SqL.of em, q Hm sm⟩
end
end Ts
namespace Ts
open PySem PySem.Spec PyProof.Rows L2 L2H LamX
section
variable {P : Program} {w : World} {K : PySem.W.Frag} {mg : Str → Option Value} {base : Heap}
theorem has_keeps_all (D : DefAt K mg "keeps_all" s_keeps_all) (B : Blt0 mg) (h_are_kept : Has P w K mg base 2 "are_kept" ["shares", "moment", "had"] (spAreKept K)) (h__are_members : Has P w K mg base 3 "_are_members" ["value", "many", "most"] (spMembers K)) : Has P w K mg base 4 "keeps_all" ["shares", "hands", "value"] (spKeepsAll K) := by
  refine D.has (fun _ _ _ _ _ _ us hl => match us, hl with | [_, _, _], _ => rfl) fun f fd F => F.ok sc_keeps_all (fun vs H Q E h => ?_) (fun cdv A outer s H vs Q E hr h => ?_)
  · obtain ⟨a, c, v, xs, js, cs, t, rfl, _⟩ := h; rfl
  obtain ⟨a, c, v, xs, js, cs, t, rfl, hS, hA, hc, l0, l6, lc, cm, hv, q⟩ := h
  refine ⟨_, (pss_cons (ps_if (PW.pt (pw_or (pt_not (pt_val (pe_callB call_isi (by rfl) B.zisinstance (by decide +kernel) (pa_cons (pv 2) (pa_cons (pe_ty "tuple" B.ztuple) pa_nil))))) (pw_or1 (pt_cmpR op_ne (pe_callB call_len_seq (by rfl) B.zlen (by decide +kernel) (pa_cons (pv 2) pa_nil)) (pe_callB call_len_seq (by rfl) B.zlen (by decide +kernel) (pa_cons (pv 1) pa_nil)) (nomark _))))) (pss_one (ps_ret pe_bl)) pss_nil)
      (pss_cons (ps_set (i := 3) sc_keeps_all.nd rfl (.inl rfl) (pe_op op_rep (pe_lst (pa_cons pe_int pa_nil)) (pe_callB call_len_seq (by rfl) B.zlen (by decide +kernel) (pa_cons (pv 0) pa_nil))))
      (pss_cons (ps_for PassesOwn.never rfl (pi_enumT (by rfl) B.zenumerate (pa_cons (pv 2) pa_nil)) (pg_tup rfl (pgs_cons (pg_name (i := 4) sc_keeps_all.nd rfl (.inl rfl)) (pgs_cons (pg_name (i := 5) sc_keeps_all.nd rfl (.inl rfl)) pgs_nil))) (pss_cons (ps_if (pt_not (pt_val (pe_h h__are_members (hr.mono (by decide)) (pa_cons (pv 5) (pa_cons (pe_callB call_len_seq (by rfl) B.zlen (by decide +kernel) (pa_cons (pv 0) pa_nil)) (pa_cons (pe_ix ix_tup (pv 1) (pv 4) (fun _ _ => rfl)) pa_nil)))))) (pss_one (ps_ret pe_bl)) pss_nil)
      (pss_cons (ps_for PassesOwn.never rfl (pi_tup (pv 5)) (pg_name (i := 6) sc_keeps_all.nd rfl (.inl rfl)) (pss_one (ps_augS (pv 3) (pv 6) get_listP pe_int ip_add set_list)))
      (pss_one (ps_if (pt_not (pt_val (pe_h h_are_kept (hr.mono (by decide)) (pa_cons (pv 0) (pa_cons (pe_op op_add (pv 4) pe_int) (pa_cons (pv 3) pa_nil)))))) (pss_one (ps_ret pe_bl)) pss_nil)))))
      (pss_one (ps_ret pe_bl))))), ?_⟩
  have lx : xs.length = js.length := by rw [hA.length]; unfold sharesD; rw [List.length_map]
  cases t with
  | none =>
    obtain ⟨T, hT, ht⟩ := hv
    have k : PySem.W.kitOne K (.type T) (.type "tuple") = some false := by
      have go : ∀ T ∈ ["int", "bool", "str", "NoneType", "list", "dict"], kitB T "tuple" = some false := by decide +kernel
      exact kit_ty (go T hT)
    exact ⟨_, rfl, _, _, _, _, _, rfl, .ty "tuple", ht, k, false, rfl, iteT (iteT (q H fun _ _ z => z))⟩
  | some rs =>
    obtain ⟨p, ys, rfl, hT, hl, hx⟩ := hv
    have hP : SqT K H p ys := hT
    refine ⟨_, rfl, _, _, _, _, _, rfl, .ty "tuple", sqt_ty37 hT, kit_ty (r := true) (by decide +kernel), true, rfl, iteF ?_⟩
    have ek : keepsB js cs (some rs) = (decide (rs.length = cs.length) && keepsGo js cs rs 0 (List.replicate js.length 0)) := rfl
    rw [ek] at q
    refine ⟨_, rfl, p, _, rfl, .inr hP, _, rfl, c, _, rfl, .inr hc, rfl, _, rfl, ?_⟩
    by_cases el : rs.length = cs.length
    · rw [decide_eq_true el, Bool.true_and] at q
      have d0 : (!decide (V.int (ys.length : Int) = V.int ((cs.map V.int).length : Int))) = false := by
        rw [decide_eq_true (show V.int (ys.length : Int) = V.int ((cs.map V.int).length : Int) by rw [List.length_map, hl, el])]; rfl
      refine itF d0 ?_
      clear d0 ek
      refine ⟨by show 1 ≤ sizeLine; decide, fun l0 hl0 => ?_⟩
      have s0 : Same H (upd H l0 (.lst [.int 0])) := same_new hl0
      have hln : xs.length * 1 ≤ 1000 := by omega
      refine ⟨_, rfl, a, _, rfl, .inr (sameT s0 hS), l0, (xs.length : Int), [.int 0], rfl, rfl, upd_same, by omega, by omega, Nat.le_trans (show 1 * ((xs.length : Int)).toNat ≤ 1000 by omega) (by decide), fun hd hhd => ?_⟩
      have fhd : H hd = none := s0.free hhd
      have er : (List.replicate ((xs.length : Int)).toNat [V.int 0]).flatten = (List.replicate js.length (0 : Int)).map V.int := by rw [show ((xs.length : Int)).toNat = js.length by omega, rep_flat]
      rw [er]
      have s1 : Same H (upd (upd H l0 (.lst [.int 0])) hd (.lst ((List.replicate js.length (0 : Int)).map V.int))) := s0.trans (same_new hhd)
      have e1 : (upd (upd H l0 (.lst [.int 0])) hd (.lst ((List.replicate js.length (0 : Int)).map V.int))) hd = some (.lst ((List.replicate js.length (0 : Int)).map V.int)) := upd_same
      revert s1 e1
      generalize upd (upd H l0 (.lst [.int 0])) hd (.lst ((List.replicate js.length (0 : Int)).map V.int)) = H1
      intro s1 e1
      clear hhd hl0 s0 hln
      dsimp only [L2.start, List.set]
      refine ⟨_, rfl, p, _, rfl, sameT s1 hP, walk_enumT (K := K) (a := p) (xs := ys) (c := 0) (fun i σ Hn => Same H Hn ∧ ∃ hs : List Int, Hn hd = some (.lst (hs.map V.int)) ∧ hs.length = js.length ∧ (∀ n ∈ hs, 0 ≤ n ∧ n ≤ 1000 * (i : Int)) ∧ keepsGo js cs (rs.drop i) i hs = keepsGo js cs rs 0 (List.replicate js.length 0) ∧ ∃ v4 v5 v6, σ = [some (.ref a), some (.ref c), some (.ref p), some (.ref hd), v4, v5, v6])
        ⟨s1, _, e1, List.length_replicate, fun n hn => by rw [List.eq_of_mem_replicate hn]; exact ⟨by decide, by omega⟩, rfl, _, _, _, rfl⟩ (fun _ _ _ _ z => sameT z.1 hP) ?_ ?_⟩
      · clear s1 e1
        rintro i x T σ H2 hx' ⟨s2, hs, eh, lh, bh, hb, v4, v5, v6, rfl⟩ hT2
        have il : i < rs.length := by rw [← hl]; exact (List.getElem?_eq_some_iff.mp hx').1
        have hk := hx i x rs[i] hx' (List.getElem?_eq_getElem il)
        rw [List.drop_eq_getElem_cons il] at hb
        generalize rs[i] = r at *
        have eb : keepsGo js cs (r :: rs.drop (i + 1)) i hs = (membersB (js.length : Int) (cs.getD i 0) r && (keptAll js ((i : Int) + 1) (incAll hs (r.getD [])) && keepsGo js cs (rs.drop (i + 1)) (i + 1) (incAll hs (r.getD [])))) := rfl
        rw [eb] at hb
        clear eb
        refine ⟨T, _, rfl, SqT.of upd_same, rfl, _, _, rfl, _, _, rfl, rfl, ?_⟩
        have s3 : Same H (upd H2 T (.tup [.int (0 + ((i : Nat) : Int)), x])) := s2.trans (same_new hT2)
        have eh3 : (upd H2 T (.tup [.int (0 + ((i : Nat) : Int)), x])) hd = some (.lst (hs.map V.int)) := same_new hT2 _ _ eh
        revert s3 eh3
        generalize upd H2 T (.tup [.int (0 + ((i : Nat) : Int)), x]) = H3
        intro s3 eh3
        obtain ⟨mb, hmb⟩ : ∃ mb, membersB (js.length : Int) (cs.getD i 0) r = mb := ⟨_, rfl⟩
        rw [hmb] at hb
        have hmb' : membersB (xs.length : Int) (cs.getD i 0) r = mb := by rw [lx]; exact hmb
        have ic : i < cs.length := by omega
        have eci : cs[i]? = some (cs.getD i 0) := by
          rw [List.getD_eq_getElem?_getD, List.getElem?_eq_getElem ic]; rfl
        have cmi := cm _ (List.mem_of_getElem? eci)
        have e01 : (0 : Int) + (i : Int) = (i : Int) := by omega
        rw [e01]
        dsimp only [List.set]
        refine ⟨_, rfl, _, rfl, a, _, rfl, .inr (sameT s3 hS), _, rfl, _, rfl, c, cs.map V.int, (i : Int), .int (cs.getD i 0), rfl, rfl, sameT s3 hc, atI_nat (by rw [List.getElem?_map, eci]; rfl), x, (xs.length : Int), cs.getD i 0, r, rfl, hk.mono s3, mb, congrArg V.bl hmb', ?_⟩
        cases mb with
        | false =>
          rw [Bool.false_and] at hb
          rw [← hb] at q
          exact iteT (q H3 s3)
        | true =>
          rw [Bool.true_and] at hb
          refine iteF ?_
          cases r with
          | none => cases hmb
          | some os =>
            obtain ⟨pm, zs, rfl, hTm, hlm, hxm⟩ := hk
            have hm2 : (decide ((os.length : Int) ≤ cs.getD i 0) && ascB (js.length : Int) os 0) = true := hmb
            rw [Bool.and_eq_true, decide_eq_true_iff] at hm2
            obtain ⟨om, asc⟩ := hm2
            have hin := ascB_in os 0 asc (Int.le_refl _)
            have eo : (some os).getD [] = os := rfl
            rw [eo] at hb
            refine ⟨_, rfl, pm, rfl, ⟨_, sameT s3 (hTm)⟩, for_tup (K := K) (a := pm) (xs := zs) (fun k σ Hn => Same H Hn ∧ ∃ hs' : List Int, Hn hd = some (.lst (hs'.map V.int)) ∧ hs'.length = js.length ∧ incAll hs' (os.drop k) = incAll hs os ∧ ∃ v6, σ = [some (.ref a), some (.ref c), some (.ref p), some (.ref hd), some (.int (i : Int)), some (.ref pm), v6]) ⟨s3, hs, eh3, lh, rfl, _, rfl⟩ (fun _ _ _ _ z => sameT z.1 (hTm)) ?_ ?_⟩
            · rintro k y σ Hn hy ⟨sn, hs', e', l', inc, v6, rfl⟩
              have kl : k < os.length := by rw [← hlm]; exact (List.getElem?_eq_some_iff.mp hy).1
              obtain ⟨j, ej, jm⟩ := hin k os[k] (List.getElem?_eq_getElem kl)
              have ky := hxm k y os[k] hy (List.getElem?_eq_getElem kl)
              rw [List.drop_eq_getElem_cons kl] at inc
              rw [ej] at ky inc
              cases ky
              have jl : j < hs'.length := by omega
              have ejh : hs'[j]? = some (hs'.getD j 0) := by
                rw [List.getD_eq_getElem?_getD, List.getElem?_eq_getElem jl]; rfl
              refine ⟨_, rfl, _, rfl, hd, _, j, .int (hs'.getD j 0), rfl, rfl, e', by rw [List.getElem?_map, ejh]; rfl, _, _, rfl, rfl, hd, _, (j : Int), j, rfl, rfl, e', place_nat (by rw [List.length_map]; exact jl), ?_⟩
              refine ⟨fun a' o e => by rw [upd_ne (ne_of_none e fhd)]; exact sn _ _ e, inc1 hs' j, ?_, by rw [inc1_len]; exact l', inc, _, rfl⟩
              rw [upd_same]
              unfold inc1
              rw [List.map_set]
            · rintro σ Hn ⟨sn, hs', e', l', inc, v6, rfl⟩
              rw [hlm, List.drop_length] at inc
              have inc' : hs' = incAll hs os := inc
              subst inc'
              have bd := incAll_in os hs (1000 * (i : Int)) (by omega) bh
              obtain ⟨kb, hkb⟩ : ∃ kb, keptAll js ((i : Int) + 1) (incAll hs os) = kb := ⟨_, rfl⟩
              rw [hkb] at hb
              refine ⟨_, rfl, _, rfl, _, _, rfl, rfl, _, rfl, a, hd, xs, js, (i : Int) + 1, incAll hs os, rfl, sameT sn hS, hA.mono sn, SqL.of e', l6, l', by omega, by omega, fun n hn => by have := bd n hn; omega, fun H4 s4 => ⟨kb, congrArg V.bl hkb, ?_⟩⟩
              cases kb with
              | false =>
                rw [Bool.false_and] at hb
                rw [← hb] at q
                exact iteT (q H4 (sn.trans s4))
              | true =>
                rw [Bool.true_and] at hb
                exact iteF ⟨sn.trans s4, _, s4 _ _ e', l', fun n hn => by have := bd n hn; omega, hb, _, _, _, rfl⟩
      · rintro σ Hn ⟨sn, hs, eh, lh, bh, hb, v4, v5, v6, rfl⟩
        rw [hl, List.drop_length] at hb
        rw [← hb] at q
        exact q Hn sn
    · rw [decide_eq_false el, Bool.false_and] at q
      have d0 : (!decide (V.int (ys.length : Int) = V.int ((cs.map V.int).length : Int))) = true := by
        rw [decide_eq_false (fun z => el (by have := V.int.inj z; rw [List.length_map, hl] at this; omega))]; rfl
      exact itT d0 (q H fun _ _ z => z)
end
end Ts
namespace Ts
open PySem PySem.Spec PyProof.Rows L2
section
variable {P : Program} {w : World} {K : PySem.W.Frag} {mg : Str → Option Value} {base : Heap}
theorem has_is_right {C : Addr} (D : DefAt K mg "is_right" s_is_right) (T : LotC K mg C) (p_shares : PropH P w K mg base C "shares" "_shares") (p_hands : PropH P w K mg base C "hands" "_hands") (p_span : PropH P w K mg base C "span" "_span") (h_keeps_all : Has P w K mg base 4 "keeps_all" ["shares", "hands", "value"] (spKeepsAll K)) :
    Has P w K mg base 5 "is_right" ["lot", "value"] (spIsRight K C) := by
  refine D.has (fun _ _ _ _ _ _ us hl => match us, hl with | [_, _], _ => rfl) fun f fd F => F.ok sc_is_right (fun vs H Q E h => ?_) (fun cdv A outer s H vs Q E hr h => ?_)
  · obtain ⟨a, v, n, js, t, rfl, _⟩ := h; rfl
  obtain ⟨a, v, n, js, t, rfl, L, G, l0, l6, hs, hn, hv, q⟩ := h
  refine ⟨_, (pss_one (ps_ret (pe_h h_keeps_all (hr.mono (by decide)) (pa_cons (pe_ph p_shares T.cl (hr.mono (by decide)) (pv 0)) (pa_cons (pe_op (op_repU) (pe_tup (pa_cons (pe_ph p_hands T.cl (hr.mono (by decide)) (pv 0)) pa_nil)) (pe_ph p_span T.cl (hr.mono (by decide)) (pv 0))) (pa_cons (pv 1) pa_nil)))))), ?_⟩
  obtain ⟨dx, pn, ps, pt, ha, h1, h2, h3⟩ := L.ex
  obtain ⟨ps2, xs, e, hS, hA⟩ := h2.tuple
  cases e
  refine ⟨_, rfl, lot_get ha lot_shares ⟨_, rfl, lot_get ha lot_hands ⟨by show 1 ≤ sizeLine; decide, fun l hl => ?_⟩⟩⟩
  have sp := span_pos G
  have s1 : Same H (upd H l (.tup [.int (n : Int)])) := same_new hl
  refine ⟨_, rfl, lot_get (s1 _ _ ha) lot_span ?_⟩
  have ck : ∀ x ∈ List.replicate (spanN js) (n : Int), x ≤ 1000 := fun x hx => by rw [List.eq_of_mem_replicate hx]; omega
  refine ⟨l, (spanN js : Int), _, rfl, rfl, SqT.of upd_same, by simp, by omega, by omega, by show 1 ≤ 1000; decide, fun h1 => ?_, fun h2 p hp => ?_⟩
  · have e1 : spanN js = 1 := by omega
    refine ⟨_, rfl, ps, l, v, xs, js, List.replicate (spanN js) (n : Int), t, rfl, sameT s1 hS, hA.mono s1, SqT.of (by rw [upd_same, e1]; rfl), l0, l6, by rw [List.length_replicate]; omega, ck, hv.mono s1, fun H2 s2 => q H2 (s1.trans s2)⟩
  · have s2 := s1.trans (same_new (o := .tup (List.replicate ((spanN js : Int)).toNat [V.int (n : Int)]).flatten) hp)
    refine ⟨_, rfl, ps, p, v, xs, js, List.replicate (spanN js) (n : Int), t, rfl, sameT s2 hS, hA.mono s2, SqT.of (by rw [upd_same, Int.toNat_natCast, List.flatten_replicate_singleton, List.map_replicate]), l0, l6, by rw [List.length_replicate]; omega, ck, hv.mono s2, fun H2 s3 => q H2 (s2.trans s3)⟩
theorem ok_is_table {C f : Addr} {fd : FuncData} (F : Fun K "is_table" "is_table" s_is_table f fd) (h_check_lot : Has P w K mg base 1 "check_lot" ["lot"] (spCheck C)) (h_check_round : Has P w K mg base 3 "check_round" ["lot"] (spCheckRound K C)) (h_is_right : Has P w K mg base 5 "is_right" ["lot", "value"] (spIsRight K C)) : FnOk P w K mg base CX0 6 f fd ["lot", "value"] (spIsTable K C) := by
  refine F.ok sc_is_table (fun vs H Q E h => ?_) (fun cdv A outer s H vs Q E hr h => ?_)
  · obtain ⟨a, v, n, js, t, rfl, _⟩ := h; rfl
  obtain ⟨a, v, n, js, t, rfl, L, G, l0, l6, hs, hn, hv, q⟩ := h
  refine ⟨_, (pss_cons (ps_expr (pe_h h_check_lot (hr.mono (by decide)) (pa_cons (pv 0) pa_nil)))
      (pss_cons (ps_expr (pe_h h_check_round (hr.mono (by decide)) (pa_cons (pv 0) pa_nil)))
      (pss_one (ps_ret (pe_h h_is_right (hr.mono (by decide)) (pa_cons (pv 0) (pa_cons (pv 1) pa_nil))))))), ?_⟩
  obtain ⟨dx, pn, ps, pt, ha, _⟩ := L.ex
  refine ⟨_, rfl, a, dx, _, rfl, ha, ?_⟩
  show tSeq _ _ _ _ _
  refine ⟨_, rfl, a, n, js, rfl, L, hs, ?_⟩
  exact ⟨_, rfl, _, rfl, a, v, n, js, t, rfl, L, G, l0, l6, hs, hn, hv, q⟩
end
end Ts
namespace Ts
open PySem PySem.Spec PyProof.Rows L2
section
variable {P : Program} {w : World} {K : PySem.W.Frag} {mg : Str → Option Value} {base : Heap}
theorem has_cell (D : DefAt K mg "_law_cell" s__law_cell) (B : Blt0 mg) : Has P w K mg base 1 "_law_cell" ["_law_cells", "_law_spot"] (spCell K) := by
  refine D.has (fun _ _ _ _ _ _ us hl => match us, hl with | [_, _], _ => rfl) fun f fd F => F.ok sc__law_cell (fun vs H Q E h => ?_) (fun cdv A outer s H vs Q E hr h => ?_)
  · obtain ⟨a, ns, i, rfl, _⟩ := h; rfl
  obtain ⟨a, ns, i, rfl, hS, hl, hi, q⟩ := h
  refine ⟨_, (pss_cons (ps_if (pt_cmpR op_lt (pv 1) (pe_callB call_len_seq (by rfl) B.zlen (by decide +kernel) (pa_cons (pv 0) pa_nil)) (nomark _)) (pss_one (ps_ret (pe_callTy call_int1 (by rfl) B.zint (by decide +kernel) (pa_cons (pe_ix ix_list (pv 0) (pv 1) (fun _ _ => rfl)) pa_nil)))) pss_nil)
      (pss_cons (ps_set (i := 2) sc__law_cell.nd rfl (.inl rfl) (pe_op op_add (pe_op op_mul pe_int (pv 1)) pe_int))
      (pss_cons (ps_for PassesOwn.never rfl (pi_list (pe_slice sl_list (pv 0) po_none (po_some pe_int))) (pg_name (i := 3) sc__law_cell.nd rfl (.inl rfl)) (pss_one (ps_set (i := 2) sc__law_cell.nd rfl (.inl rfl) (pe_op op_mod (pe_callTy call_int1 (by rfl) B.zint (by decide +kernel) (pa_cons (pe_op op_add (pe_op op_add (pe_op op_mul (pv 2) pe_int) (pv 3)) pe_int) pa_nil)) pe_int))))
      (pss_one (ps_ret (pv 2)))))), ?_⟩
  refine ⟨_, rfl, _, rfl, a, _, rfl, .inl hS, _, _, rfl, rfl, _, rfl, ite2 (fun c => ?_) (fun c => ?_)⟩
  · have c' : i < ns.length := by
      have := of_decide_eq_true c
      rw [List.length_map] at this
      omega
    exact ⟨_, rfl, _, rfl, a, _, i, .int ns[i], rfl, rfl, hS, atI_nat (by rw [List.getElem?_map, List.getElem?_eq_getElem c']; rfl), .inl ⟨_, rfl, q _ H (Same.refl _)⟩⟩
  · refine ⟨_, rfl, _, _, rfl, rfl, .inl ⟨by decide, by decide⟩, _, _, rfl, rfl, ?_⟩
    refine ⟨_, rfl, _, rfl, a, _, rfl, hS, fun p hp => ?_⟩
    have s1 : Same H (upd H p (.lst (cutV (ns.map V.int) none (some 4)))) := same_new hp
    have e1 : (upd H p (.lst (cutV (ns.map V.int) none (some 4)))) p = some (.lst (cutV (ns.map V.int) none (some 4))) := upd_same
    revert s1 e1
    generalize upd H p (.lst (cutV (ns.map V.int) none (some 4))) = H1
    intro s1 e1
    refine ⟨p, rfl, ⟨_, SqL.of e1⟩, for_list (K := K) (a := p) (xs := cutV (ns.map V.int) none (some 4)) (fun _ σ H' => Same H1 H' ∧ ∃ (z : Int) (v : Option V), σ = [some (.ref a), some (.int i), some (.int z), v])
      ⟨Same.refl _, _, _, rfl⟩ (fun _ _ _ _ z => SqL.of (z.1 _ _ e1)) ?_ ?_⟩
    · rintro j x σ H' hx ⟨sm, z, v, rfl⟩
      obtain ⟨n, rfl⟩ : ∃ n, x = V.int n := by
        have m := List.mem_of_getElem? hx
        unfold cutV at m
        obtain ⟨n, _, e⟩ := List.mem_map.mp (List.mem_of_mem_drop (List.mem_of_mem_take m))
        exact ⟨n, e.symm⟩
      exact ⟨_, rfl, _, _, rfl, rfl, .inr ⟨by decide, by decide⟩, _, rfl, _, _, rfl, rfl, _, _, rfl, rfl, .inl ⟨_, rfl, _, _, rfl, rfl, (by decide : (0 : Int) < _), sm, _, _, rfl⟩⟩
    · rintro σ H' ⟨sm, z, v, rfl⟩
      exact ⟨_, rfl, q _ _ (s1.trans sm)⟩
theorem has_jar (D : DefAt K mg "_law_jar" s__law_jar) (B : Blt0 mg) (h__law_cell : Has P w K mg base 1 "_law_cell" ["_law_cells", "_law_spot"] (spCell K)) : Has P w K mg base 2 "_law_jar" ["_law_cells", "_law_spot"] (spBasin K) := by
  refine D.has (fun _ _ _ _ _ _ us hl => match us, hl with | [_, _], _ => rfl) fun f fd F => F.ok sc__law_jar (fun vs H Q E h => ?_) (fun cdv A outer s H vs Q E hr h => ?_)
  · obtain ⟨a, ns, i, rfl, _⟩ := h; rfl
  obtain ⟨a, ns, i, rfl, hS, hl, hi, q⟩ := h
  refine ⟨_, (pss_cons (ps_set (i := 2) sc__law_jar.nd rfl (.inl rfl) (pe_callB call_abs (by rfl) B.zabs (by decide +kernel) (pa_cons (pe_h h__law_cell (hr.mono (by decide)) (pa_cons (pv 0) (pa_cons (pv 1) pa_nil))) pa_nil)))
      (pss_one (ps_ret (pe_lst (pa_cons (pv 2) (pa_cons (pe_op op_mod (pe_callTy call_int1 (by rfl) B.zint (by decide +kernel) (pa_cons (pe_op op_add (pv 2) (pe_op op_mul pe_int (pv 1))) pa_nil)) pe_int) (pa_cons pe_int pa_nil))))))), ?_⟩
  refine ⟨_, rfl, _, rfl, a, ns, i, rfl, hS, hl, by omega, fun x H1 s1 => ?_⟩
  refine ⟨_, rfl, ?_⟩
  refine ⟨_, rfl, _, rfl, _, rfl, _, _, rfl, rfl, .inl ⟨by decide, by decide⟩, _, _, rfl, rfl, .inl ⟨_, rfl, _, _, rfl, rfl, (by decide : (0 : Int) < _), by show 3 ≤ sizeLine; decide, fun p hp => ?_⟩⟩
  exact q p _ (s1.free hp) (s1.trans (same_new hp)) ⟨_, _, _, upd_same⟩
theorem has_dig (D : DefAt K mg "_law_dig" s__law_dig) (B : Blt0 mg) : Has P w K mg base 1 "_law_dig" ["_law_jar_here", "_law_many"] spLadle := by
  refine D.has (fun _ _ _ _ _ _ us hl => match us, hl with | [_, _], _ => rfl) fun f fd F => F.ok sc__law_dig (fun vs H Q E h => ?_) (fun cdv A outer s H vs Q E hr h => ?_)
  · obtain ⟨b, m, rfl, _⟩ := h; rfl
  obtain ⟨b, m, rfl, ⟨x, y, z, hb⟩, hm0, hm1, q⟩ := h
  refine ⟨_, (pss_cons (ps_asg (pe_op op_add (pe_ix ix_list (pv 0) pe_int (fun _ _ => rfl)) pe_int) (pg_sub (pv 0) pe_int set_list))
      (pss_cons (ps_set (i := 2) sc__law_dig.nd rfl (.inl rfl) (pe_callTy call_int1 (by rfl) B.zint (by decide +kernel) (pa_cons (pe_ix ix_list (pv 0) pe_int (fun _ _ => rfl)) pa_nil)))
      (pss_cons (ps_asg (pe_op op_mod (pe_callTy call_int1 (by rfl) B.zint (by decide +kernel) (pa_cons (pe_op op_add (pe_op op_add (pe_op op_mul (pv 2) (pe_op op_add (pe_op op_mod (pe_callTy call_int1 (by rfl) B.zint (by decide +kernel) (pa_cons (pv 2) pa_nil)) pe_int) pe_int)) (pe_op op_mul (pe_ix ix_list (pv 0) pe_int (fun _ _ => rfl)) pe_int)) pe_int) pa_nil)) pe_int) (pg_sub (pv 0) pe_int set_list))
      (pss_cons (ps_if (pt_cmpR op_gt (pe_ix ix_list (pv 0) pe_int (fun _ _ => rfl)) pe_int (nomark _)) (pss_cons (ps_asg (pe_callB call_divmod (by rfl) B.zdivmod (by decide +kernel) (pa_cons (pe_ix ix_list (pv 0) pe_int (fun _ _ => rfl)) (pa_cons (pv 1) pa_nil))) (pg_tup rfl (pgs_cons (pg_sub (pv 0) pe_int set_list) (pgs_cons (pg_name (i := 3) sc__law_dig.nd rfl (.inl rfl)) pgs_nil))))
      (pss_one (ps_ret (pv 3)))) pss_nil)
      (pss_one (ps_ret (pe_op op_mod (pe_callTy call_int1 (by rfl) B.zint (by decide +kernel) (pa_cons (pe_op op_fdiv (pe_ix ix_list (pv 0) pe_int (fun _ _ => rfl)) pe_int) pa_nil)) (pv 1)))))))), ?_⟩
  -- b[2] = b[2] + 1
  refine ⟨_, rfl, b, _, 2, .int z, rfl, rfl, SqL.of hb, rfl, _, _, rfl, rfl, _, rfl, b, _, 2, 2, rfl, rfl, hb, rfl, ?_⟩
  have b1 : But b H (upd H b (.lst ([V.int x, V.int y, V.int z].set 2 (V.int (z + 1))))) := But.set
  have e1 : (upd H b (.lst ([V.int x, V.int y, V.int z].set 2 (V.int (z + 1))))) b = some (.lst [.int x, .int y, .int (z + 1)]) := upd_same
  revert b1 e1
  generalize upd H b (.lst ([V.int x, V.int y, V.int z].set 2 (V.int (z + 1)))) = H1
  intro b1 e1
  -- mixed
  refine ⟨_, rfl, b, _, 1, .int y, rfl, rfl, SqL.of e1, rfl, .inl ⟨_, rfl, ?_⟩⟩
  -- b[1] = ..
  have hpos : (0 : Int) < 29989 := by decide
  have r0 := Int.emod_nonneg y (show (29989 : Int) ≠ 0 by decide)
  have r1 := Int.emod_lt_of_pos y hpos
  refine ⟨_, rfl, _, rfl, .inl ⟨_, rfl, _, _, rfl, rfl, hpos, _, _, rfl, rfl, _, _, rfl, rfl, .inr ⟨by omega, by omega⟩, _, rfl, b, _, 2, .int (z + 1), rfl, rfl, SqL.of e1, rfl, _, _, rfl, rfl, .inr ⟨by decide, by decide⟩, _, _, rfl, rfl, _, _, rfl, rfl, .inl ⟨_, rfl, _, _, rfl, rfl, (by decide : (0 : Int) < _), _, rfl, b, _, 1, 1, rfl, rfl, e1, rfl, ?_⟩⟩⟩
  obtain ⟨y2, hy2⟩ : ∃ y2, y2 = (y * (y % 29989 + 40013) + (z + 1) * 65521 + 7) % 2147483587 := ⟨_, rfl⟩
  have b2 : But b H (upd H1 b (.lst ([V.int x, V.int y, V.int (z + 1)].set 1 (V.int y2)))) := b1.trans But.set
  have e2 : (upd H1 b (.lst ([V.int x, V.int y, V.int (z + 1)].set 1 (V.int y2)))) b = some (.lst [.int x, .int y2, .int (z + 1)]) := upd_same
  revert b2 e2
  rw [hy2]
  generalize upd H1 b (.lst ([V.int x, V.int y, V.int (z + 1)].set 1 (V.int ((y * (y % 29989 + 40013) + (z + 1) * 65521 + 7) % 2147483587)))) = H2
  rw [← hy2]
  intro b2 e2
  refine ⟨_, rfl, b, _, 0, .int x, rfl, rfl, SqL.of e2, rfl, _, _, rfl, rfl, _, rfl, ?_⟩
  refine ite2 (fun c => ?_) (fun c => ?_)
  · refine ⟨_, rfl, b, _, 0, .int x, rfl, rfl, SqL.of e2, rfl, _, rfl, x, m, rfl, ⟨hm0, hm1⟩, fun p hp => ?_⟩
    have hbp : b ≠ p := ne_of_none e2 hp
    refine ⟨p, _, rfl, SqT.of upd_same, rfl, _, _, rfl, _, rfl, b, [.int x, .int y2, .int (z + 1)], 0, 0, rfl, rfl, (by rw [upd_ne hbp]; exact e2), rfl, ?_⟩
    refine ⟨_, _, rfl, rfl, _, rfl, q _ _ (Int.emod_nonneg _ (by omega)) (Int.emod_lt_of_pos _ hm0) ?_ ⟨_, _, _, upd_same⟩⟩
    exact b2.trans ((But.of_same (same_new hp)).trans But.set)
  · exact ⟨_, rfl, b, _, 1, _, rfl, rfl, SqL.of e2, rfl, _, _, rfl, rfl, ⟨by decide, by decide⟩, .inl ⟨_, rfl, _, rfl, _, _, rfl, rfl, hm0, q _ _ (Int.emod_nonneg _ (by omega)) (Int.emod_lt_of_pos _ hm0) b2 ⟨_, _, _, e2⟩⟩⟩
theorem has_take (D : DefAt K mg "_law_take" s__law_take) (B : Blt0 mg) (h__law_dig : Has P w K mg base 1 "_law_dig" ["_law_jar_here", "_law_many"] spLadle) : Has P w K mg base 2 "_law_take" ["_law_jar_here", "_law_some"] (spTakeJ K) := by
  refine D.has (fun _ _ _ _ _ _ us hl => match us, hl with | [_, _], _ => rfl) fun f fd F => F.ok sc__law_take (fun vs H Q E h => ?_) (fun cdv A outer s H vs Q E hr h => ?_)
  · obtain ⟨b, p, xs, rfl, _⟩ := h; rfl
  obtain ⟨b, p, xs, rfl, hB, hS, l0, l1, q⟩ := h
  refine ⟨_, (pss_one (ps_ret (pe_ix ix_list (pv 1) (pe_h h__law_dig (hr.mono (by decide)) (pa_cons (pv 0) (pa_cons (pe_callB call_len_seq (by rfl) B.zlen (by decide +kernel) (pa_cons (pv 1) pa_nil)) pa_nil))) (fun _ _ => rfl)))), ?_⟩
  refine ⟨_, rfl, _, rfl, _, rfl, p, _, rfl, .inl (hid_sub.seq hS), b, _, rfl, hB, by omega, by omega, fun r H1 r0 r1 b1 B1 => ?_⟩
  obtain ⟨v, hv, mv⟩ := atI_in (xs := xs) r0 r1
  exact ⟨p, xs, r, v, rfl, rfl, hid_sub.seq (b1.hid.seq hS), hv, q v H1 mv b1 B1⟩
end
end Ts
namespace Ts
open PySem PySem.Spec PyProof.Rows L2
section
variable {P : Program} {w : World} {K : PySem.W.Frag} {mg : Str → Option Value} {base : Heap}
theorem has_lotJ (D : DefAt K mg "_law_lot" s__law_lot) (B : Blt0 mg) (h__law_dig : Has P w K mg base 1 "_law_dig" ["_law_jar_here", "_law_many"] spLadle) (h__law_take : Has P w K mg base 2 "_law_take" ["_law_jar_here", "_law_some"] (spTakeJ K)) : Has P w K mg base 3 "_law_lot" ["_law_jar_here", "_law_most"] (spLotJ K) := by
  refine D.has (fun _ _ _ _ _ _ us hl => match us, hl with | [_, _], _ => rfl) fun f fd F => F.ok sc__law_lot (fun vs H Q E h => ?_) (fun cdv A outer s H vs Q E hr h => ?_)
  · obtain ⟨b, m, rfl, _⟩ := h; rfl
  obtain ⟨b, m, rfl, hB, hm0, hm1, q⟩ := h
  refine ⟨_, (pss_cons (ps_set (i := 2) sc__law_lot.nd rfl (.inr rfl) (pe_lst (pa_cons (pe_tup (pa_cons pe_int (pa_cons pe_int pa_nil))) (pa_cons (pe_tup (pa_cons pe_int (pa_cons pe_int pa_nil))) (pa_cons (pe_tup (pa_cons pe_int (pa_cons pe_int pa_nil))) (pa_cons (pe_tup (pa_cons pe_int (pa_cons pe_int pa_nil))) (pa_cons (pe_tup (pa_cons pe_int (pa_cons pe_int pa_nil))) (pa_cons (pe_tup (pa_cons pe_int (pa_cons pe_int pa_nil))) (pa_cons (pe_tup (pa_cons pe_int (pa_cons pe_int pa_nil))) (pa_cons (pe_tup (pa_cons pe_int (pa_cons pe_int pa_nil))) (pa_cons (pe_tup (pa_cons pe_int (pa_cons pe_int pa_nil))) (pa_cons (pe_tup (pa_cons pe_int (pa_cons pe_int pa_nil))) pa_nil))))))))))))
      (pss_cons (ps_set (i := 3) sc__law_lot.nd rfl (.inr rfl) (pe_h h__law_take (hr.mono (by decide)) (pa_cons (pv 0) (pa_cons (pe_lst (pa_cons (pe_lst (pa_cons pe_str (pa_cons pe_str (pa_cons pe_str (pa_cons pe_str pa_nil))))) (pa_cons (pe_lst (pa_cons pe_str (pa_cons pe_str (pa_cons pe_str (pa_cons pe_str pa_nil))))) (pa_cons (pe_lst (pa_cons pe_str (pa_cons pe_str (pa_cons pe_str (pa_cons pe_str pa_nil))))) pa_nil)))) pa_nil))))
      (pss_cons (ps_set (i := 4) sc__law_lot.nd rfl (.inl rfl) (pe_op op_add pe_int (pe_h h__law_dig (hr.mono (by decide)) (pa_cons (pv 0) (pa_cons (pv 1) pa_nil)))))
      (pss_one (ps_ret (pe_tup (pa_cons (pe_op op_add pe_int (pe_h h__law_dig (hr.mono (by decide)) (pa_cons (pv 0) (pa_cons pe_int pa_nil)))) (pa_cons (pe_lc (own := [("_law_k", 5)]) rfl sc__law_lot.nd (pi_range1 (by rfl) B.zrange (pa_cons (pv 4) pa_nil)) (blkOk_by (N := ["_law_jar_here", "_law_most", "_law_menu", "_law_tags", "_law_many", "_law_k"]) (sc := defScope s__law_lot) (own := [("_law_k", 5)]) (by decide +kernel)) (fun _ _ _ _ _ => (pg_name (i := 5) sc__law_lot.nd rfl (.inl rfl) (.inr rfl))) (fun _ _ _ _ _ => pts_nil) (fun _ _ _ _ _ => (pe_tup (pa_cons (pe_ix (ixL (K := K) rfl) (pv 3) (pv 5) (fun _ _ => rfl)) (pa_cons (pe_h h__law_take (hr.mono (by decide)) (pa_cons (pv 0) (pa_cons (pv 2) pa_nil))) pa_nil))))) pa_nil)))))))), ?_⟩
  have A0 : DpAll K H [] [] := .nil
  have s0 : Same H H := Same.refl _
  refine ⟨by show 2 ≤ sizeLine; decide, fun p1 hp1 => ?_⟩
  have t1 : Same H (upd H p1 (.tup [.int 1, .int 1])) := same_new hp1
  have e1 : (upd H p1 (.tup [V.int 1, .int 1])) p1 = some (.tup [.int ((1 : Nat) : Int), .int ((1 : Nat) : Int)]) := upd_same
  have A1 : DpAll K (upd H p1 (.tup [.int 1, .int 1])) [.ref p1] [partD 1 1] := (A0.mono t1).snoc (.tup (SqT.of e1) (.cons (.int _) (.cons (.int _) .nil)))
  have s1 := s0.trans t1
  revert A1 s1
  clear t1 e1
  generalize upd H p1 (.tup [.int 1, .int 1]) = H1
  intro A1 s1
  refine ⟨by show 2 ≤ sizeLine; decide, fun p2 hp2 => ?_⟩
  have t2 : Same H1 (upd H1 p2 (.tup [.int 1, .int 2])) := same_new hp2
  have e2 : (upd H1 p2 (.tup [V.int 1, .int 2])) p2 = some (.tup [.int ((1 : Nat) : Int), .int ((2 : Nat) : Int)]) := upd_same
  have A2 : DpAll K (upd H1 p2 (.tup [.int 1, .int 2])) [.ref p1, .ref p2] [partD 1 1, partD 1 2] := (A1.mono t2).snoc (.tup (SqT.of e2) (.cons (.int _) (.cons (.int _) .nil)))
  have s2 := s1.trans t2
  revert A2 s2
  clear t2 e2
  generalize upd H1 p2 (.tup [.int 1, .int 2]) = H2
  intro A2 s2
  refine ⟨by show 2 ≤ sizeLine; decide, fun p3 hp3 => ?_⟩
  have t3 : Same H2 (upd H2 p3 (.tup [.int 1, .int 3])) := same_new hp3
  have e3 : (upd H2 p3 (.tup [V.int 1, .int 3])) p3 = some (.tup [.int ((1 : Nat) : Int), .int ((3 : Nat) : Int)]) := upd_same
  have A3 : DpAll K (upd H2 p3 (.tup [.int 1, .int 3])) [.ref p1, .ref p2, .ref p3] [partD 1 1, partD 1 2, partD 1 3] := (A2.mono t3).snoc (.tup (SqT.of e3) (.cons (.int _) (.cons (.int _) .nil)))
  have s3 := s2.trans t3
  revert A3 s3
  clear t3 e3
  generalize upd H2 p3 (.tup [.int 1, .int 3]) = H3
  intro A3 s3
  refine ⟨by show 2 ≤ sizeLine; decide, fun p4 hp4 => ?_⟩
  have t4 : Same H3 (upd H3 p4 (.tup [.int 2, .int 3])) := same_new hp4
  have e4 : (upd H3 p4 (.tup [V.int 2, .int 3])) p4 = some (.tup [.int ((2 : Nat) : Int), .int ((3 : Nat) : Int)]) := upd_same
  have A4 : DpAll K (upd H3 p4 (.tup [.int 2, .int 3])) [.ref p1, .ref p2, .ref p3, .ref p4] [partD 1 1, partD 1 2, partD 1 3, partD 2 3] := (A3.mono t4).snoc (.tup (SqT.of e4) (.cons (.int _) (.cons (.int _) .nil)))
  have s4 := s3.trans t4
  revert A4 s4
  clear t4 e4
  generalize upd H3 p4 (.tup [.int 2, .int 3]) = H4
  intro A4 s4
  refine ⟨by show 2 ≤ sizeLine; decide, fun p5 hp5 => ?_⟩
  have t5 : Same H4 (upd H4 p5 (.tup [.int 1, .int 4])) := same_new hp5
  have e5 : (upd H4 p5 (.tup [V.int 1, .int 4])) p5 = some (.tup [.int ((1 : Nat) : Int), .int ((4 : Nat) : Int)]) := upd_same
  have A5 : DpAll K (upd H4 p5 (.tup [.int 1, .int 4])) [.ref p1, .ref p2, .ref p3, .ref p4, .ref p5] [partD 1 1, partD 1 2, partD 1 3, partD 2 3, partD 1 4] := (A4.mono t5).snoc (.tup (SqT.of e5) (.cons (.int _) (.cons (.int _) .nil)))
  have s5 := s4.trans t5
  revert A5 s5
  clear t5 e5
  generalize upd H4 p5 (.tup [.int 1, .int 4]) = H5
  intro A5 s5
  refine ⟨by show 2 ≤ sizeLine; decide, fun p6 hp6 => ?_⟩
  have t6 : Same H5 (upd H5 p6 (.tup [.int 3, .int 4])) := same_new hp6
  have e6 : (upd H5 p6 (.tup [V.int 3, .int 4])) p6 = some (.tup [.int ((3 : Nat) : Int), .int ((4 : Nat) : Int)]) := upd_same
  have A6 : DpAll K (upd H5 p6 (.tup [.int 3, .int 4])) [.ref p1, .ref p2, .ref p3, .ref p4, .ref p5, .ref p6] [partD 1 1, partD 1 2, partD 1 3, partD 2 3, partD 1 4, partD 3 4] := (A5.mono t6).snoc (.tup (SqT.of e6) (.cons (.int _) (.cons (.int _) .nil)))
  have s6 := s5.trans t6
  revert A6 s6
  clear t6 e6
  generalize upd H5 p6 (.tup [.int 3, .int 4]) = H6
  intro A6 s6
  refine ⟨by show 2 ≤ sizeLine; decide, fun p7 hp7 => ?_⟩
  have t7 : Same H6 (upd H6 p7 (.tup [.int 1, .int 6])) := same_new hp7
  have e7 : (upd H6 p7 (.tup [V.int 1, .int 6])) p7 = some (.tup [.int ((1 : Nat) : Int), .int ((6 : Nat) : Int)]) := upd_same
  have A7 : DpAll K (upd H6 p7 (.tup [.int 1, .int 6])) [.ref p1, .ref p2, .ref p3, .ref p4, .ref p5, .ref p6, .ref p7] [partD 1 1, partD 1 2, partD 1 3, partD 2 3, partD 1 4, partD 3 4, partD 1 6] := (A6.mono t7).snoc (.tup (SqT.of e7) (.cons (.int _) (.cons (.int _) .nil)))
  have s7 := s6.trans t7
  revert A7 s7
  clear t7 e7
  generalize upd H6 p7 (.tup [.int 1, .int 6]) = H7
  intro A7 s7
  refine ⟨by show 2 ≤ sizeLine; decide, fun p8 hp8 => ?_⟩
  have t8 : Same H7 (upd H7 p8 (.tup [.int 5, .int 6])) := same_new hp8
  have e8 : (upd H7 p8 (.tup [V.int 5, .int 6])) p8 = some (.tup [.int ((5 : Nat) : Int), .int ((6 : Nat) : Int)]) := upd_same
  have A8 : DpAll K (upd H7 p8 (.tup [.int 5, .int 6])) [.ref p1, .ref p2, .ref p3, .ref p4, .ref p5, .ref p6, .ref p7, .ref p8] [partD 1 1, partD 1 2, partD 1 3, partD 2 3, partD 1 4, partD 3 4, partD 1 6, partD 5 6] := (A7.mono t8).snoc (.tup (SqT.of e8) (.cons (.int _) (.cons (.int _) .nil)))
  have s8 := s7.trans t8
  revert A8 s8
  clear t8 e8
  generalize upd H7 p8 (.tup [.int 5, .int 6]) = H8
  intro A8 s8
  refine ⟨by show 2 ≤ sizeLine; decide, fun p9 hp9 => ?_⟩
  have t9 : Same H8 (upd H8 p9 (.tup [.int 1, .int 2])) := same_new hp9
  have e9 : (upd H8 p9 (.tup [V.int 1, .int 2])) p9 = some (.tup [.int ((1 : Nat) : Int), .int ((2 : Nat) : Int)]) := upd_same
  have A9 : DpAll K (upd H8 p9 (.tup [.int 1, .int 2])) [.ref p1, .ref p2, .ref p3, .ref p4, .ref p5, .ref p6, .ref p7, .ref p8, .ref p9] [partD 1 1, partD 1 2, partD 1 3, partD 2 3, partD 1 4, partD 3 4, partD 1 6, partD 5 6, partD 1 2] := (A8.mono t9).snoc (.tup (SqT.of e9) (.cons (.int _) (.cons (.int _) .nil)))
  have s9 := s8.trans t9
  revert A9 s9
  clear t9 e9
  generalize upd H8 p9 (.tup [.int 1, .int 2]) = H9
  intro A9 s9
  refine ⟨by show 2 ≤ sizeLine; decide, fun p10 hp10 => ?_⟩
  have t10 : Same H9 (upd H9 p10 (.tup [.int 2, .int 3])) := same_new hp10
  have e10 : (upd H9 p10 (.tup [V.int 2, .int 3])) p10 = some (.tup [.int ((2 : Nat) : Int), .int ((3 : Nat) : Int)]) := upd_same
  have A10 : DpAll K (upd H9 p10 (.tup [.int 2, .int 3])) [.ref p1, .ref p2, .ref p3, .ref p4, .ref p5, .ref p6, .ref p7, .ref p8, .ref p9, .ref p10] [partD 1 1, partD 1 2, partD 1 3, partD 2 3, partD 1 4, partD 3 4, partD 1 6, partD 5 6, partD 1 2, partD 2 3] := (A9.mono t10).snoc (.tup (SqT.of e10) (.cons (.int _) (.cons (.int _) .nil)))
  have s10 := s9.trans t10
  revert A10 s10
  clear t10 e10
  generalize upd H9 p10 (.tup [.int 2, .int 3]) = H10
  intro A10 s10
  refine ⟨by show 10 ≤ sizeLine; decide, fun pm hpm => ?_⟩
  obtain ⟨M, hM⟩ : ∃ M : List V, M = [.ref p1, .ref p2, .ref p3, .ref p4, .ref p5, .ref p6, .ref p7, .ref p8, .ref p9, .ref p10] := ⟨_, rfl⟩
  have AM : DpAll K H10 M (menuL.map fun q => partD q.1 q.2) := by rw [hM]; exact A10
  have lM : M.length = 10 := by rw [hM]; rfl
  have tm : Same H10 (upd H10 pm (.lst M)) := same_new hpm
  have em : (upd H10 pm (.lst M)) pm = some (.lst M) := upd_same
  show tSeq _ _ _ _ (upd H10 pm (.lst [.ref p1, .ref p2, .ref p3, .ref p4, .ref p5, .ref p6, .ref p7, .ref p8, .ref p9, .ref p10]))
  rw [← hM]
  have AM2 := AM.mono tm
  have s11 := s10.trans tm
  have B11 := hB.on s11
  have npm : pm ≠ b := (hB.on s10).off hpm
  revert em AM2 s11 B11
  generalize upd H10 pm (.lst M) = H11
  intro em AM2 s11 B11
  clear AM tm hpm A10 hM A9 A8 A7 A6 A5 A4 A3 A2 A1 A0
  -- the names
  refine ⟨_, rfl, by show 4 ≤ sizeLine; decide, fun l1 hl1 => ⟨by show 4 ≤ sizeLine; decide, fun l2 hl2 => ⟨by show 4 ≤ sizeLine; decide, fun l3 hl3 => ⟨by show 3 ≤ sizeLine; decide, fun pl hpl => ?_⟩⟩⟩⟩
  have g1 : Same H11 (upd H11 l1 (.lst [.str "a", .str "b", .str "c", .str "d"])) := same_new hl1
  have nb1 := B11.off hl1
  have B12 := B11.on g1
  have f1 : (upd H11 l1 (.lst [V.str "a", .str "b", .str "c", .str "d"])) l1 = some (.lst [.str "a", .str "b", .str "c", .str "d"]) := upd_same
  revert g1 f1 B12
  generalize upd H11 l1 (.lst [.str "a", .str "b", .str "c", .str "d"]) = H12 at *
  intro g1 B12 f1
  have g2 : Same H12 (upd H12 l2 (.lst [.str "zoe", .str "bob", .str "ann", .str "cat"])) := same_new hl2
  have nb2 := B12.off hl2
  have B13 := B12.on g2
  have f2 : (upd H12 l2 (.lst [V.str "zoe", .str "bob", .str "ann", .str "cat"])) l2 = some (.lst [.str "zoe", .str "bob", .str "ann", .str "cat"]) := upd_same
  revert g2 f2 B13
  generalize upd H12 l2 (.lst [.str "zoe", .str "bob", .str "ann", .str "cat"]) = H13 at *
  intro g2 B13 f2
  have g3 : Same H13 (upd H13 l3 (.lst [.str "hands", .str "work", .str "q", .str "x"])) := same_new hl3
  have nb3 := B13.off hl3
  have B14 := B13.on g3
  have f3 : (upd H13 l3 (.lst [V.str "hands", .str "work", .str "q", .str "x"])) l3 = some (.lst [.str "hands", .str "work", .str "q", .str "x"]) := upd_same
  revert g3 f3 B14
  generalize upd H13 l3 (.lst [.str "hands", .str "work", .str "q", .str "x"]) = H14 at *
  intro g3 B14 f3
  have g4 : Same H14 (upd H14 pl (.lst [.ref l1, .ref l2, .ref l3])) := same_new hpl
  have nb4 := B14.off hpl
  have B15 := B14.on g4
  have f4 : (upd H14 pl (.lst [.ref l1, .ref l2, .ref l3])) pl = some (.lst [.ref l1, .ref l2, .ref l3]) := upd_same
  revert g4 f4 B15
  generalize upd H14 pl (.lst [.ref l1, .ref l2, .ref l3]) = H15 at *
  intro g4 B15 f4
  have TT : ∀ v ∈ [V.ref l1, .ref l2, .ref l3], ∃ (l : Addr) (ts : List Str), v = .ref l ∧ ts ∈ tagsL ∧ H15 l = some (.lst (ts.map V.str)) ∧ l ≠ b := fun v hv => by
    simp only [List.mem_cons, List.not_mem_nil, or_false] at hv
    rcases hv with rfl | rfl | rfl
    · exact ⟨l1, _, rfl, List.mem_cons_self, (g2.trans (g3.trans g4)) _ _ f1, nb1⟩
    · exact ⟨l2, _, rfl, List.mem_cons_of_mem _ List.mem_cons_self, (g3.trans g4) _ _ f2, nb2⟩
    · exact ⟨l3, _, rfl, List.mem_cons_of_mem _ (List.mem_cons_of_mem _ List.mem_cons_self), g4 _ _ f3, nb3⟩
  have g14 := g1.trans (g2.trans (g3.trans g4))
  have em15 := g14 _ _ em
  have AM15 := AM2.mono g14
  have s15 := s11.trans g14
  clear g1 g2 g3 g4 g14 f1 f2 f3 nb1 nb2 nb3 B14 B13 B12 AM2 em s11 B11 hpl hl1 hl2 hl3
  refine ⟨b, pl, [.ref l1, .ref l2, .ref l3], rfl, B15, SqL.of (by rw [hid_ne nb4]; exact f4), by show 0 < 3; decide, by show 3 ≤ 1000; decide, fun v H16 mv b16 B16 => ?_⟩
  obtain ⟨lt, ts, rfl, hts, et, nlt⟩ := TT v mv
  obtain ⟨tl4, tnd, ttag⟩ := tags_ok ts hts
  have e16 := b16 _ _ nlt et
  have em16 := b16 _ _ npm em15
  obtain ⟨x5, y5, z5, eb5⟩ := id B15
  have tsp : ∀ d ∈ menuL.map (fun q => partD q.1 q.2), TupS d := fun d hd => by
    obtain ⟨q, _, rfl⟩ := List.mem_map.mp hd
    exact tupS_part _ _
  have AM16 := dpa_butS eb5 b16 tsp AM15
  have b06 : But b H H16 := (But.of_same s15).trans b16
  clear et em15 AM15 TT f4 eb5 b16 B15 s15 mv
  -- many
  refine ⟨_, rfl, _, rfl, b, (m : Int), rfl, B16, by omega, by omega, fun r H17 r0 r1 b17 B17 => ?_⟩
  obtain ⟨k0, rfl⟩ := Int.eq_ofNat_of_zero_le r0
  obtain ⟨mk, hmk⟩ : ∃ mk : Nat, (1 : Int) + (k0 : Int) = (mk : Int) := ⟨1 + k0, by omega⟩
  refine ⟨_, _, rfl, rfl, ?_⟩
  dsimp only
  rw [hmk]
  have mk1 : 1 ≤ mk := by omega
  have mk4 : mk ≤ m := by omega
  have b07 := b06.trans b17
  have e17 := b17 _ _ nlt e16
  have em17 := b17 _ _ npm em16
  obtain ⟨x6, y6, z6, eb6⟩ := id B16
  have AM17 := dpa_butS eb6 b17 tsp AM16
  clear eb6 e16 em16 AM16 b06 b17 B16 r0 r1
  -- the hands
  refine ⟨_, rfl, b, 3, rfl, B17, by decide, by decide, fun r H18 r0 r1 b18 B18 => ?_⟩
  obtain ⟨n0, rfl⟩ := Int.eq_ofNat_of_zero_le r0
  obtain ⟨n, hn⟩ : ∃ n : Nat, (1 : Int) + (n0 : Int) = (n : Int) := ⟨1 + n0, by omega⟩
  have b08 := b07.trans b18
  have e18 := b18 _ _ nlt e17
  have em18 := b18 _ _ npm em17
  obtain ⟨x7, y7, z7, eb7⟩ := id B17
  have AM18 := dpa_butS eb7 b18 tsp AM17
  clear eb7 e17 em17 AM17 b07 b18 B17
  refine ⟨_, _, rfl, rfl, _, rfl, _, rfl, by omega, by omega, fun D2 hD2 => ?_⟩
  have nD := B18.off hD2
  have nlD : lt ≠ D2 := ne_of_none e18 hD2
  have nmD : pm ≠ D2 := ne_of_none em18 hD2
  refine lc_range (lo := 0) (n := ((mk : Nat) : Int).toNat) (fun i Hm => But b H18 Hm ∧ Bas Hm b ∧ DpAll K Hm M (menuL.map fun q => partD q.1 q.2) ∧ ∃ (js : List Job) (us : List V), js.length = i ∧ js.map (·.1) = ts.take i ∧ (∀ j ∈ js, GoodPart 16 j.2.1 j.2.2 ∧ j.2.2 ∣ 12) ∧ Hm D2 = some (.lst us) ∧ DpAll K Hm us (js.map jobD))
    ⟨But.of_same (same_new hD2), B18.on (same_new hD2), AM18.mono (same_new hD2), [], [], rfl, rfl, by simp, upd_same, .nil⟩ ?_ ?_
  · rintro i Hm hi ⟨bm, Bm, Am, js, us, ljs, ejs, gjs, eD, dD⟩
    have im : i < mk := by simpa using hi
    have ei : (0 : Int) + (i : Int) = ((i : Nat) : Int) := by omega
    rw [ei]
    have it : i < ts.length := by omega
    refine ⟨rfl, yesIf ⟨_, rfl, _, rfl, lt, _, ((i : Nat) : Int), .str (ts[i]), rfl, rfl, SqL.of (bm _ _ nlt e18), atI_nat (by rw [List.getElem?_map, List.getElem?_eq_getElem it]; rfl), ?_⟩⟩
    refine ⟨_, rfl, _, rfl, b, pm, M, rfl, Bm, SqL.of (by rw [hid_ne npm]; exact bm _ _ npm em18), by rw [lM]; decide, by rw [lM]; decide, fun v Hn mv bn Bn => ?_⟩
    obtain ⟨x8, y8, z8, eb8⟩ := id Bm
    have An := dpa_butS eb8 bn tsp Am
    have eDn := bn _ _ nD eD
    have dDn := dpa_butS eb8 bn tupS_jobs dD
    obtain ⟨c, hc⟩ := List.mem_iff_getElem?.mp mv
    obtain ⟨d, hd, hv⟩ := An.get hc
    rw [List.getElem?_map] at hd
    cases ec : menuL[c]? with
    | none => rw [ec] at hd; cases hd
    | some qp =>
    rw [ec] at hd
    cases Option.some.inj hd
    have gq := menu_ok qp (List.mem_of_getElem? ec)
    have lu : us.length < sizeLine := by
      have h := dD.length
      rw [List.length_map] at h
      exact small1000 (by omega)
    refine ⟨by show 2 ≤ sizeLine; decide, fun tp htp => ?_⟩
    have s9 : Same Hn (upd Hn tp (.tup [.str ts[i], v])) := same_new htp
    have e9 : (upd Hn tp (.tup [.str ts[i], v])) tp = some (.tup [.str ts[i], v]) := upd_same
    have ntp : tp ≠ D2 := (ne_of_none eDn htp).symm
    revert s9 e9
    generalize upd Hn tp (.tup [.str ts[i], v]) = Ho
    intro s9 e9
    have bo : But b H18 Ho := (bm.trans bn).trans (But.of_same s9)
    have Bo := Bn.on s9
    have eDo := s9 _ _ eDn
    have put : But D2 Ho (upd Ho D2 (.lst (us ++ [.ref tp]))) := But.set
    refine ⟨us, eDo, lu, ?_, Bo.set_other nD, dpa_butS eDo put tsp (An.mono s9), js ++ [(ts[i], qp.1, qp.2)], us ++ [.ref tp], by rw [List.length_append, ljs]; rfl, ?_, ?_, upd_same, ?_⟩
    · intro a o na h
      rw [upd_ne (ne_of_none h hD2)]; exact bo a o na h
    · rw [List.map_append, ejs, List.take_add_one, List.getElem?_eq_getElem it]; rfl
    · intro j hj
      rcases List.mem_append.mp hj with z | z
      · exact gjs j z
      · rw [List.mem_singleton.mp z]; exact gq
    · rw [List.map_append]
      refine (dpa_butS eDo put tupS_jobs (dDn.mono s9)).append (.cons (.tup (SqT.of (by rw [upd_ne ntp]; exact e9)) (.cons (.str _) (.cons ?_ .nil))) .nil)
      exact (dp_hideS eDo (tupS_part _ _) _ (hv.mono s9)).mono put.hid |>.mono hid_sub
  · rintro Hm ⟨bm, Bm, Am, js, us, ljs, ejs, gjs, eD, dD⟩
    rw [Int.toNat_natCast] at ljs ejs
    refine ⟨by show 2 ≤ sizeLine; decide, fun tp htp => ?_⟩
    have s9 : Same Hm (upd Hm tp (.tup [.int (1 + (n0 : Int)), .ref D2])) := same_new htp
    have b9 := b08.trans (bm.trans (But.of_same s9))
    have B9 := Bm.on s9
    have fr : H tp = none := by
      cases e : H tp with
      | none => rfl
      | some o =>
        by_cases tb : tp = b
        · obtain ⟨_, _, _, eb⟩ := Bm
          rw [tb, eb] at htp; cases htp
        · rw [bm _ _ tb (b08 _ _ tb e)] at htp; cases htp
    have gd : Good 16 js := ⟨by rw [ejs]; exact tnd.sublist (List.take_sublist _ _), fun j hj => ttag _ (List.mem_of_mem_take (by rw [← ejs]; exact List.mem_map_of_mem hj)), fun j hj => (gjs j hj).1⟩
    obtain ⟨x8, y8, z8, eb8⟩ := id B9
    refine q n js tp D2 _ (by omega) (by omega) (by omega) (by omega) gd (fun j hj => (gjs j hj).2) b9 B9 fr (by rw [upd_same]; dsimp only; rw [hn]) ?_
    exact .lst (SqL.of (by rw [hid_ne nD]; exact s9 _ _ eD)) (DpAll.imp (dD.mono s9) fun d hd => dp_hideS eb8 (tupS_jobs d hd))
end
end Ts
namespace Ts
open PySem PySem.Spec PyProof.Rows L2
section
variable {P : Program} {w : World} {K : PySem.W.Frag} {mg : Str → Option Value} {base : Heap}
theorem has_textJ (D : DefAt K mg "_law_text" s__law_text) (B : Blt0 mg) : Has P w K mg base 1 "_law_text" ["_law_lot_here"] (spTextJ K) := by
  refine D.has (fun _ _ _ _ _ _ us hl => match us, hl with | [_], _ => rfl) fun f fd F => F.ok sc__law_text (fun vs H Q E h => ?_) (fun cdv A outer s H vs Q E hr h => ?_)
  · obtain ⟨p, q2, n, js, rfl, _⟩ := h; rfl
  obtain ⟨p, qq, n, js, rfl, hT, hD, G, hn, hl, q⟩ := h
  refine ⟨_, (pss_cons (ps_set (i := 1) sc__law_text.nd rfl (.inl rfl) (pe_lst (pa_cons (pe_op op_add_str pe_str (pe_callTy call_str_int (by rfl) B.zstr (by decide +kernel) (pa_cons (pe_ix ix_tup (pv 0) pe_int (fun _ _ => rfl)) pa_nil))) pa_nil)))
      (pss_one (ps_ret (pe_join pe_str (pe_op op_cat (pv 1) (pe_lc (own := [("_law_tag", 2), ("_law_e", 3), ("_law_p", 4)]) rfl sc__law_text.nd (pi_list (pe_ix ix_tup (pv 0) pe_int (fun _ _ => rfl))) (blkOk_by (N := ["_law_lot_here", "_law_rows", "_law_tag", "_law_e", "_law_p"]) (sc := defScope s__law_text) (own := [("_law_tag", 2), ("_law_e", 3), ("_law_p", 4)]) (by decide +kernel)) (fun _ _ _ _ _ => (pg_tupK (K := K) (n := 2) rfl rfl (pgs_cons (pg_name (i := 2) sc__law_text.nd rfl (.inl rfl) (.inr rfl)) (pgs_cons (pg_tupK (K := K) (n := 2) rfl rfl (pgs_cons (pg_name (i := 3) sc__law_text.nd rfl (.inl rfl) (.inr rfl)) (pgs_cons (pg_name (i := 4) sc__law_text.nd rfl (.inl rfl) (.inr rfl)) pgs_nil))) pgs_nil)))) (fun _ _ _ _ _ => pts_nil) (fun _ _ _ _ _ => (pe_op op_add_str (pe_op op_add_str (pe_op op_add_str (pe_op op_add_str (pe_op op_add_str pe_str (pv 2)) pe_str) (pe_callTy call_str_int (by rfl) B.zstr (by decide +kernel) (pa_cons (pv 3) pa_nil))) pe_str) (pe_callTy call_str_int (by rfl) B.zstr (by decide +kernel) (pa_cons (pv 4) pa_nil)))))))))), ?_⟩
  obtain ⟨p', xs, e, hS, hA⟩ := hD.list
  cases e
  have ln := numS_len hn
  have l6 : (Str.ofString "hands ").length = 6 := by decide
  have hxl : xs.length = js.length := by rw [hA.length, List.length_map]
  refine ⟨_, rfl, p, _, 0, .int (n : Int), rfl, rfl, hT, atI_nat (j := 0) rfl, _, rfl, num_okB hn, _, _, rfl, rfl, ?_, by show 1 ≤ sizeLine; decide, fun ph hph => ?_⟩
  · rw [l6]
    show 6 + (numS n).length ≤ sizeLine
    exact Nat.le_of_lt (small1000 (by omega))
  have s0 : Same H (upd H ph (.lst [.str (Str.ofString "hands " ++ Str.ofString (toString ((n : Nat) : Int)))])) := same_new hph
  have e0 : (upd H ph (.lst [V.str (Str.ofString "hands " ++ Str.ofString (toString ((n : Nat) : Int)))])) ph = some (.lst [.str (handsS n)]) := upd_same
  revert s0 e0
  generalize upd H ph (.lst [.str (Str.ofString "hands " ++ Str.ofString (toString ((n : Nat) : Int)))]) = H1
  intro s0 e0
  refine ⟨⟨_, rfl⟩, _, rfl, _, rfl, p, _, 1, .ref qq, rfl, rfl, sameT s0 hT, atI_nat (j := 1) rfl, qq, rfl, ⟨_, s0.seq hS⟩, fun pr hpr => ?_⟩
  have hA1 := hA.mono s0
  refine lc_list (K := K) (a := qq) (xs := xs) (fun i H2 => Same H1 H2 ∧ H2 pr = some (.lst (((js.take i).map rowS).map V.str))) ⟨same_new hpr, upd_same⟩ (fun _ _ _ z => (s0.trans z.1).seq hS) ?_ ?_
  · rintro i x H2 hx ⟨sm, e2⟩
    obtain ⟨j, a, q2, hj, rfl, ha, hq⟩ := job_at hA1 hx
    have hjm : j ∈ js := List.mem_of_getElem? hj
    have hp := G.part j hjm
    have ht := G.tag j hjm
    obtain ⟨p1, p2, p3, _⟩ := id hp
    have lr := rowS_len ht hp
    have e6 : (rowS j).length = (Str.ofString "work " ++ j.1 ++ Str.ofString " " ++ numS j.2.1 ++ Str.ofString "/" ++ numS j.2.2).length := rfl
    rw [e6, Str.length_append, Str.length_append, Str.length_append, Str.length_append, Str.length_append] at lr
    have big : ∀ {k : Nat}, k ≤ 23 → k ≤ sizeLine := fun h => Nat.le_of_lt (small1000 (by omega))
    refine ⟨a, _, rfl, sameT sm ha, rfl, _, _, rfl, _, _, rfl, q2, _, rfl, sameT sm hq, rfl, _, _, rfl, _, _, rfl, rfl, rfl, rfl, ?_⟩
    refine yesIf ⟨_, rfl, _, _, rfl, rfl, big (by omega), _, _, rfl, rfl, big (by rw [Str.length_append]; omega), ?_⟩
    refine ⟨_, rfl, _, rfl, num_okB (by omega), _, _, rfl, rfl, big (by rw [Str.length_append, Str.length_append]; show _ + (numS j.2.1).length ≤ 23; omega), ?_⟩
    refine ⟨_, _, rfl, rfl, big (by rw [Str.length_append, Str.length_append, Str.length_append]; show _ + _ + _ + (numS j.2.1).length + _ ≤ 23; omega), ?_⟩
    refine ⟨_, rfl, _, rfl, num_okB (by omega), _, _, rfl, rfl, big (by rw [Str.length_append, Str.length_append, Str.length_append, Str.length_append]; show _ + _ + _ + (numS j.2.1).length + _ + (numS j.2.2).length ≤ 23; omega), ?_⟩
    refine ⟨_, e2, ?_, Same.app hpr sm, ?_⟩
    · rw [List.length_map, List.length_map, List.length_take]; exact small1000 (by omega)
    · rw [upd_same, map_take_succ rowS hj, List.map_append]; rfl
  rintro H2 ⟨sm, e2⟩
  rw [hxl, List.take_length] at e2
  refine ⟨ph, pr, _, _, rfl, rfl, sm _ _ e0, e2, ?_, fun pj hpj => ?_⟩
  · rw [List.length_map, List.length_map]; exact Nat.le_trans (show 1 + js.length ≤ 1000 by omega) (by decide)
  refine ⟨_, pj, rowsOf n js, rfl, rfl, .inl (SqL.of upd_same), ?_, q _ (s0.trans (sm.trans (same_new hpj)))⟩
  have h1 : ((rowsOf n js).map (·.length)).sum ≤ 10 + 23 * js.length := by
    show (handsS n).length + ((js.map rowS).map (·.length)).sum ≤ _
    have a : (handsS n).length ≤ 10 := by unfold handsS; rw [Str.length_append, l6]; omega
    have b : ∀ l : List Job, (∀ j ∈ l, (rowS j).length ≤ 23) → ((l.map rowS).map (·.length)).sum ≤ 23 * l.length := by
      intro l
      induction l with
      | nil => intro _; exact Nat.le_refl _
      | cons j l ih =>
        intro h
        have h1 := h j List.mem_cons_self
        have h2 := ih fun y hy => h y (List.mem_cons_of_mem _ hy)
        show (rowS j).length + ((l.map rowS).map (·.length)).sum ≤ 23 * (l.length + 1)
        omega
    have c := b js fun j hj => rowS_len (G.tag j hj) (G.part j hj)
    omega
  have h2 : (rowsOf n js).length = js.length + 1 := by unfold rowsOf; rw [List.length_cons, List.length_map]
  have h3 : (Str.ofString "\n").length = 1 := by decide
  rw [h2, h3]
  omega
theorem has_spanJ (D : DefAt K mg "_law_span" s__law_span) (B : Blt0 mg) : Has P w K mg base 1 "_law_span" ["_law_lot_here"] (spSpanJ K) := by
  refine D.has (fun _ _ _ _ _ _ us hl => match us, hl with | [_], _ => rfl) fun f fd F => F.ok sc__law_span (fun vs H Q E h => ?_) (fun cdv A outer s H vs Q E hr h => ?_)
  · obtain ⟨p, q2, n, js, rfl, _⟩ := h; rfl
  obtain ⟨p, qq, n, js, rfl, hT, hD, G, D12, l6, q⟩ := h
  refine ⟨_, (pss_one (ps_ret (pe_ix ix_list (pe_lc (own := [("_law_k", 1)]) rfl sc__law_span.nd (pi_range2 (by rfl) B.zrange (pa_cons pe_int (pa_cons pe_int pa_nil))) (blkOk_by (N := ["_law_lot_here", "_law_k", "_law_tag", "_law_e", "_law_p"]) (sc := defScope s__law_span) (own := [("_law_k", 1)]) (by decide +kernel)) (fun _ _ _ _ _ => (pg_name (i := 1) sc__law_span.nd rfl (.inr rfl) (.inl rfl))) (fun _ _ _ _ _ => (pts_one (pt_cmpR (eqDK (K := K) rfl (hu64 hr)) (pe_lc (own := [("_law_tag", 2), ("_law_e", 3), ("_law_p", 4)]) rfl sc__law_span.nd ((pi_listK (K := K) rfl) (pe_ix (ixT (K := K) rfl) (pv 0) pe_int (fun _ _ => rfl))) (blkOk_in (N := ["_law_lot_here", "_law_k", "_law_tag", "_law_e", "_law_p"]) (own := [("_law_tag", 2), ("_law_e", 3), ("_law_p", 4)]) rfl (by decide +kernel)) (fun _ _ _ _ _ => (pg_tupK (K := K) (n := 2) rfl rfl (pgs_cons (pg_name (i := 2) sc__law_span.nd rfl (.inl rfl) (.inr rfl)) (pgs_cons (pg_tupK (K := K) (n := 2) rfl rfl (pgs_cons (pg_name (i := 3) sc__law_span.nd rfl (.inl rfl) (.inr rfl)) (pgs_cons (pg_name (i := 4) sc__law_span.nd rfl (.inl rfl) (.inr rfl)) pgs_nil))) pgs_nil)))) (fun _ _ _ _ _ => (pts_one (pt_cmpR op_ne (pe_op op_mod (pe_callTy call_int1 (by rfl) B.zint (by decide +kernel) (pa_cons (pv 1) pa_nil)) (pv 4)) pe_int (nomark _)))) (fun _ _ _ _ _ => (pv 4))) (pe_lst pa_nil) (nomark _)))) (fun _ _ _ _ _ => (pv 1))) pe_int (fun _ _ => rfl)))), ?_⟩
  obtain ⟨p', xs, e, hS, hA⟩ := hD.list
  cases e
  have hxl : xs.length = js.length := by rw [hA.length, List.length_map]
  obtain ⟨rest, hrest⟩ := rounds_first G D12
  refine ⟨_, _, rfl, ⟨by decide, by decide, by decide, by decide⟩, fun D2 hD2 => ?_⟩
  refine lc_range (lo := 1) (n := 12) (fun i Hm => Same H Hm ∧ Hm D2 = some (.lst (natV (((List.range i).map (· + 1)).filter fun k => (js.filter fun j => decide (k % j.2.2 ≠ 0)).isEmpty)))) ⟨same_new hD2, upd_same⟩ ?_ ?_
  · rintro i Hm hi ⟨sm, em⟩
    have ei : (1 : Int) + (i : Int) = ((i + 1 : Nat) : Int) := by omega
    rw [ei]
    have hA1 := hA.mono sm
    refine ⟨rfl, _, rfl, p, _, 1, .ref qq, rfl, rfl, sameT sm hT, atI_nat (j := 1) rfl, qq, rfl, ⟨_, sm.seq hS⟩, fun D3 hD3 => ?_⟩
    refine lc_list (K := K) (a := qq) (xs := xs) (fun k Hk => Same Hm Hk ∧ Hk D3 = some (.lst ((((js.take k).filter fun j => decide ((i + 1) % j.2.2 ≠ 0)).map fun j => ((j.2.2 : Nat) : Int)).map V.int))) ⟨same_new hD3, upd_same⟩ (fun _ _ _ z => (sm.trans z.1).seq hS) ?_ ?_
    · rintro k x Hk hx ⟨sk, ek⟩
      obtain ⟨j, a, q2, hj, rfl, ha, hq⟩ := job_at hA1 hx
      obtain ⟨g1, g2, g3, g4⟩ := G.part j (List.mem_of_getElem? hj)
      refine ⟨a, _, rfl, sameT sk ha, rfl, _, _, rfl, _, _, rfl, q2, _, rfl, sameT sk hq, rfl, _, _, rfl, _, _, rfl, rfl, rfl, rfl, ?_⟩
      refine ⟨_, rfl, .inl ⟨_, rfl, _, rfl, _, _, rfl, rfl, by omega, rfl, _, rfl, ?_⟩⟩
      have e9 : (!decide (V.int (((i + 1 : Nat) : Int) % ((j.2.2 : Nat) : Int)) = V.int 0)) = decide ((i + 1) % j.2.2 ≠ 0) := by
        have : ((i + 1 : Nat) : Int) % ((j.2.2 : Nat) : Int) = (((i + 1) % j.2.2 : Nat) : Int) := by norm_cast
        rw [this]
        generalize (i + 1) % j.2.2 = z
        by_cases c : z = 0
        · rw [c]; rfl
        · rw [decide_eq_false (fun y : V.int ((z : Nat) : Int) = V.int 0 => c (by have := V.int.inj y; omega)), decide_eq_true c]; rfl
      show (if (!decide (V.int (((i + 1 : Nat) : Int) % ((j.2.2 : Nat) : Int)) = V.int 0)) = true then _ else _)
      rw [e9]
      refine ite2 (fun t => ?_) (fun t => ?_)
      · refine ⟨_, rfl, _, ek, ?_, Same.app hD3 sk, ?_⟩
        · rw [List.length_map, List.length_map]
          refine small1000 (Nat.le_trans (List.length_filter_le _ _) ?_)
          rw [List.length_take]; omega
        · rw [upd_same, filter_take_succ _ hj, if_pos t, List.map_append, List.map_append]; rfl
      · refine ⟨sk, ?_⟩
        rw [filter_take_succ _ hj, if_neg t, List.append_nil]; exact ek
    · rintro Hk ⟨sk, ek⟩
      rw [hxl, List.take_length] at ek
      refine ⟨by show 0 ≤ sizeLine; decide, fun l0 hl0 => ?_⟩
      have s5 : Same Hk (upd Hk l0 (.lst [])) := same_new hl0
      refine ⟨_, _, .lst (SqL.of (s5 _ _ ek)) (DpAll.ints _), .lst (SqL.of upd_same) .nil, shaped_intL _, shaped_nil, _, rfl, ?_⟩
      rw [eqv_intL, List.isEmpty_map]
      have s6 := sm.trans (sk.trans s5)
      have er : (List.range (i + 1)).map (· + 1) = (List.range i).map (· + 1) ++ [i + 1] := by rw [List.range_succ, List.map_append]; rfl
      refine ite2 (fun t => ?_) (fun t => ?_)
      · refine ⟨_, rfl, _, (sk.trans s5) _ _ em, ?_, Same.app hD2 s6, ?_⟩
        · rw [List.length_map]
          refine small1000 (Nat.le_trans (List.length_filter_le _ _) ?_)
          rw [List.length_map, List.length_range]; omega
        · rw [upd_same, er, List.filter_append, List.filter_cons, if_pos t, natV, natV, List.map_append]; rfl
      · refine ⟨s6, ?_⟩
        rw [er, List.filter_append, List.filter_cons, if_neg t, List.filter_nil, List.append_nil]
        exact (sk.trans s5) _ _ em
  · rintro Hm ⟨sm, em⟩
    rw [hrest] at em
    exact ⟨D2, _, 0, .int ((spanN js : Nat) : Int), rfl, rfl, SqL.of em, atI_nat (j := 0) rfl, q Hm sm⟩
end
end Ts
namespace Ts
open PySem PySem.Spec PyProof.Rows L2
section
variable {P : Program} {w : World} {K : PySem.W.Frag} {mg : Str → Option Value} {base : Heap}
theorem has_fitJ (D : DefAt K mg "_law_fitting" s__law_fitting) (B : Blt0 mg) (h__law_dig : Has P w K mg base 1 "_law_dig" ["_law_jar_here", "_law_many"] spLadle) (h__law_lot : Has P w K mg base 3 "_law_lot" ["_law_jar_here", "_law_most"] (spLotJ K)) : Has P w K mg base 4 "_law_fitting" ["_law_jar_here", "_law_most"] (spFitJ K) := by
  refine D.has (fun _ _ _ _ _ _ us hl => match us, hl with | [_, _], _ => rfl) fun f fd F => F.ok sc__law_fitting (fun vs H Q E h => ?_) (fun cdv A outer s H vs Q E hr h => ?_)
  · obtain ⟨b, m, rfl, _⟩ := h; rfl
  obtain ⟨b, m, rfl, hB, hm0, hm1, q⟩ := h
  refine ⟨_, (pss_cons (ps_asg (pe_h h__law_lot (hr.mono (by decide)) (pa_cons (pv 0) (pa_cons (pv 1) pa_nil))) (pg_tup rfl (pgs_cons (pg_name (i := 2) sc__law_fitting.nd rfl (.inl rfl)) (pgs_cons (pg_name (i := 3) sc__law_fitting.nd rfl (.inl rfl)) pgs_nil))))
      (pss_cons (ps_set (i := 7) sc__law_fitting.nd rfl (.inl rfl) (pe_callB (cr_sum rfl) (by rfl) B.zsum (by decide +kernel) (pa_cons (pe_lc (own := [("_law_tag", 4), ("_law_e", 5), ("_law_p", 6)]) rfl sc__law_fitting.nd (pi_list (pv 3)) (blkOk_by (N := ["_law_jar_here", "_law_most", "_law_own", "_law_works", "_law_tag", "_law_e", "_law_p", "_law_needed"]) (sc := defScope s__law_fitting) (own := [("_law_tag", 4), ("_law_e", 5), ("_law_p", 6)]) (by decide +kernel)) (fun _ _ _ _ _ => (pg_tupK (K := K) (n := 2) rfl rfl (pgs_cons (pg_name (i := 4) sc__law_fitting.nd rfl (.inl rfl) (.inr rfl)) (pgs_cons (pg_tupK (K := K) (n := 2) rfl rfl (pgs_cons (pg_name (i := 5) sc__law_fitting.nd rfl (.inl rfl) (.inr rfl)) (pgs_cons (pg_name (i := 6) sc__law_fitting.nd rfl (.inl rfl) (.inr rfl)) pgs_nil))) pgs_nil)))) (fun _ _ _ _ _ => pts_nil) (fun _ _ _ _ _ => (pe_op op_fdiv (pe_op op_mul pe_int (pv 5)) (pv 6)))) pa_nil)))
      (pss_one (ps_ret (pe_tup (pa_cons (pe_op op_add (pe_un un_neg (pe_op op_fdiv (pe_un un_neg (pv 7)) pe_int)) (pe_callTy call_int1 (by rfl) B.zint (by decide +kernel) (pa_cons (pe_cmpR op_eq (pe_h h__law_dig (hr.mono (by decide)) (pa_cons (pv 0) (pa_cons pe_int pa_nil))) pe_int (nomark _)) pa_nil))) (pa_cons (pv 3) pa_nil))))))), ?_⟩
  refine ⟨_, rfl, _, rfl, b, m, rfl, hB, hm0, hm1, fun n js p r H1 n1 n6 l0 lm G D12 b1 B1 fp ep dr => ?_⟩
  obtain ⟨r2, xs, e, hS, hA⟩ := dr.list
  cases e
  have hS1 := hid_sub.seq hS
  have hA1 := hA.mono hid_sub
  have lx : xs.length = js.length := by rw [hA.length, List.length_map]
  refine ⟨p, _, rfl, SqT.of ep, rfl, _, _, rfl, _, _, rfl, rfl, ?_⟩
  refine ⟨_, rfl, r, rfl, ⟨_, hS1⟩, fun D2 hD2 => ?_⟩
  refine lc_list (K := K) (a := r) (xs := xs) (fun i Hm => Same H1 Hm ∧ Hm D2 = some (.lst (((js.take i).map fun j => ((12 * j.2.1 / j.2.2 : Nat) : Int)).map V.int))) ⟨same_new hD2, upd_same⟩ (fun _ _ _ z => z.1.seq hS1) ?_ ?_
  · rintro i x Hm hx ⟨sm, em⟩
    obtain ⟨j, c, q2, hj, rfl, hc, hd⟩ := job_at hA1 hx
    obtain ⟨g1, g2, g3, g4⟩ := G.part j (List.mem_of_getElem? hj)
    refine ⟨c, _, rfl, sameT sm hc, rfl, _, _, rfl, _, _, rfl, q2, _, rfl, sameT sm hd, rfl, _, _, rfl, _, _, rfl, rfl, rfl, rfl, yesIf ?_⟩
    refine ⟨_, rfl, _, _, rfl, rfl, .inl ⟨by decide, by decide⟩, _, rfl, _, _, rfl, rfl, ⟨by omega, by omega⟩, _, em, ?_, Same.app hD2 sm, ?_⟩
    · rw [List.length_map, List.length_map, List.length_take]; exact small1000 (by omega)
    · rw [upd_same, map_take_succ _ hj, List.map_append]; rfl
  rintro H2 ⟨s2, e2⟩
  rw [lx, List.take_length] at e2
  have eN : (js.map fun j => ((12 * j.2.1 / j.2.2 : Nat) : Int)).sum = (((js.map fun j => 12 * j.2.1 / j.2.2).sum : Nat) : Int) := by
    have := natV_sum (js.map fun j => 12 * j.2.1 / j.2.2)
    rw [List.map_map] at this
    exact this
  refine ⟨_, _, rfl, SqL.of e2, ?_⟩
  rw [eN]
  obtain ⟨z1, z2⟩ := need_range G D12 l0
  have nf := fun n => need_fitsF G D12 n
  have z3 : js.length ≤ 4 := by omega
  revert z1 z2 nf
  generalize (js.map fun j => 12 * j.2.1 / j.2.2).sum = N
  intro z1 z2 nf
  have b2 : But b H H2 := b1.trans' s2
  have B2 := B1.on s2
  refine ⟨_, rfl, _, rfl, _, _, rfl, rfl, ⟨by decide, by decide⟩, _, rfl, _, rfl, b, 4, rfl, B2, by decide, by decide, fun rr H3 r0 r1 b3 B3 => ?_⟩
  refine ⟨rfl, .inr ⟨_, rfl, _, _, rfl, rfl, _, rfl, by show 2 ≤ sizeLine; decide, fun tp htp => ?_⟩⟩
  have s4 : Same H3 (upd H3 tp (.tup [.int (-(-((N : Nat) : Int) / 12) + (if decide (V.int rr = V.int 0) = true then 1 else 0)), .ref r])) := same_new htp
  have b4 := (b2.trans b3).trans' s4
  obtain ⟨v, hv, hv1, hv2, hv3⟩ : ∃ v : Nat, -(-((N : Nat) : Int) / 12) + (if decide (V.int rr = V.int 0) = true then 1 else 0) = (v : Int) ∧ 1 ≤ v ∧ v ≤ 6 ∧ N ≤ 12 * v := by
    refine ⟨(-(-((N : Nat) : Int) / 12) + (if decide (V.int rr = V.int 0) = true then 1 else 0)).toNat, ?_, ?_, ?_, ?_⟩ <;> split <;> omega
  refine q v js tp r _ hv1 hv2 l0 lm G D12 (Decidable.byContradiction fun z => by have := (nf v).mpr z; omega) b4 (B3.on s4) ?_ (by rw [upd_same, ← hv]) ((dr.mono (hid_same s2)).mono (b3.trans' s4).hid)
  cases e : H tp with
  | none => rfl
  | some o =>
    by_cases tb : tp = b
    · obtain ⟨_, _, _, eb⟩ := B3
      rw [tb, eb] at htp; cases htp
    · rw [(b2.trans b3) _ _ tb e] at htp; cases htp
end
end Ts
namespace Ts
open PySem PySem.Spec PyProof.Rows L2
section
variable {P : Program} {w : World} {K : PySem.W.Frag} {mg : Str → Option Value} {base : Heap}
theorem has_nearJ (D : DefAt K mg "_law_near" s__law_near) (B : Blt0 mg) : Has P w K mg base 1 "_law_near" ["_law_share_here", "_law_many", "_law_t"] (spNearJ K) := by
  refine D.has (fun _ _ _ _ _ _ us hl => match us, hl with | [_, _, _], _ => rfl) fun f fd F => F.ok sc__law_near (fun vs H Q E h => ?_) (fun cdv A outer s H vs Q E hr h => ?_)
  · obtain ⟨v, e, p, m, t, rfl, _⟩ := h; rfl
  obtain ⟨v, e, p, m, t, rfl, hv, ⟨g1, g2, g3, g4⟩, q⟩ := h
  obtain ⟨a, rfl, hS⟩ := part_at hv
  refine ⟨_, (pss_one (ps_ret (pe_cmpR op_lt (pe_callB call_abs (by rfl) B.zabs (by decide +kernel) (pa_cons (pe_op op_sub (pe_op op_mul (pv 2) (pe_ix ix_tup (pv 0) pe_int (fun _ _ => rfl))) (pe_op op_mul (pv 1) (pe_ix ix_tup (pv 0) pe_int (fun _ _ => rfl)))) pa_nil)) (pe_ix ix_tup (pv 0) pe_int (fun _ _ => rfl)) (nomark _)))), ?_⟩
  refine ⟨_, rfl, _, rfl, a, _, 0, _, rfl, rfl, hS, atI_nat (j := 0) rfl, _, _, rfl, rfl, .inr ⟨by omega, by omega⟩, _, rfl, _, rfl, a, _, 1, _, rfl, rfl, hS, atI_nat (j := 1) rfl, _, _, rfl, rfl, .inr ⟨by omega, by omega⟩, _, _, rfl, rfl, _, rfl, _, rfl, a, _, 1, _, rfl, rfl, hS, atI_nat (j := 1) rfl, _, _, rfl, rfl, ?_⟩
  have e1 : decide ((if t * (e : Int) - m * (p : Int) < 0 then -(t * (e : Int) - m * (p : Int)) else t * (e : Int) - m * (p : Int)) < (p : Int)) = nearB e p m t := by
    unfold nearB
    refine decide_eq_decide.mpr ?_
    generalize t * (e : Int) - m * (p : Int) = d
    split <;> omega
  show Q (V.bl (decide ((if t * (e : Int) - m * (p : Int) < 0 then -(t * (e : Int) - m * (p : Int)) else t * (e : Int) - m * (p : Int)) < (p : Int)))) H
  rw [e1]
  exact q
theorem has_plusJ (D : DefAt K mg "_law_plus" s__law_plus) (B : Blt0 mg) : Has P w K mg base 1 "_law_plus" ["_law_had", "_law_given"] (spPlusJ K) := by
  refine D.has (fun _ _ _ _ _ _ us hl => match us, hl with | [_, _], _ => rfl) fun f fd F => F.ok sc__law_plus (fun vs H Q E h => ?_) (fun cdv A outer s H vs Q E hr h => ?_)
  · obtain ⟨a, g, r, s, rfl, _⟩ := h; rfl
  obtain ⟨a, g, r, s', rfl, hA, hG, l6, q⟩ := h
  refine ⟨_, (pss_one (ps_ret (pe_callTy call_tuple_of (by rfl) B.ztuple (by decide +kernel) (pa_cons (pe_lc (own := [("_law_k", 2)]) rfl sc__law_plus.nd (pi_range1 (by rfl) B.zrange (pa_cons (pe_callB call_len_seq (by rfl) B.zlen (by decide +kernel) (pa_cons (pv 0) pa_nil)) pa_nil)) (blkOk_by (N := ["_law_had", "_law_given", "_law_k"]) (sc := defScope s__law_plus) (own := [("_law_k", 2)]) (by decide +kernel)) (fun _ _ _ _ _ => (pg_name (i := 2) sc__law_plus.nd rfl (.inl rfl) (.inr rfl))) (fun _ _ _ _ _ => pts_nil) (fun _ _ _ _ _ => (pe_op op_add (pe_ix (ixT (K := K) rfl) (pv 0) (pv 2) (fun _ _ => rfl)) (pe_callTy call_int1 (by rfl) B.zint (by decide +kernel) (pa_cons (pe_cmpR (inS (K := K) rfl) (pv 2) (pv 1) (by rfl)) pa_nil))))) pa_nil)))), ?_⟩
  have lr : (r.map V.int).length = r.length := List.length_map _
  refine ⟨_, rfl, a, _, rfl, .inr hA, ?_⟩
  rw [lr]
  refine ⟨_, rfl, by omega, by omega, fun pl hpl => ?_⟩
  refine lc_range (lo := 0) (n := ((r.length : Nat) : Int).toNat) (fun i Hm => Same H Hm ∧ Hm pl = some (.lst (((plusR r s').take i).map V.int))) ⟨same_new hpl, by rw [List.take_zero]; exact upd_same⟩ ?_ ?_
  · rintro i H2 hi ⟨s2, e2⟩
    have ec : (0 : Int) + (i : Int) = (i : Int) := by omega
    rw [ec]
    have hi2 : i < r.length := by omega
    obtain ⟨m, hm⟩ : ∃ m, r[i]? = some m := ⟨_, List.getElem?_eq_getElem hi2⟩
    refine ⟨rfl, yesIf ⟨_, rfl, _, rfl, a, _, i, .int m, rfl, rfl, sameT s2 hA, atI_nat (by rw [List.getElem?_map, hm]; rfl), ?_⟩⟩
    refine ⟨_, rfl, _, rfl, g, _, rfl, .inr (sameT s2 hG), rfl, List.all_eq_true.mpr fun v hv => (by obtain ⟨t', _, rfl⟩ := List.mem_map.mp hv; rfl), .inr ⟨_, rfl, _, _, rfl, rfl, ?_⟩⟩
    have lp : i < (plusR r s').length := by unfold plusR; rw [List.length_map, List.length_range]; exact hi2
    have ep : (plusR r s')[i]? = some (m + (if ((i : Int) ∈ s') then 1 else 0)) := by
      unfold plusR
      rw [List.getElem?_map, List.getElem?_range hi2]
      show some (r.getD i 0 + _) = _
      rw [List.getD_eq_getElem?_getD, hm]; rfl
    refine ⟨_, e2, ?_, Same.app hpl s2, ?_⟩
    · rw [List.length_map, List.length_take]; exact small1000 (by omega)
    · rw [upd_same, List.take_add_one, ep, List.map_append]
      have h0 : ∀ x : Bool, (if false = true then !x else x) = x := fun x => rfl
      have ev : (if (if false = true then !inV (.int (i : Int)) (s'.map V.int) else inV (.int (i : Int)) (s'.map V.int)) = true then (1 : Int) else 0) = if ((i : Int) ∈ s') then 1 else 0 := by
        rw [h0, inV_ints]
        by_cases c : (i : Int) ∈ s' <;> simp [c]
      show some (HO.lst (_ ++ [V.int (m + (if (if false = true then !inV (.int (i : Int)) (s'.map V.int) else inV (.int (i : Int)) (s'.map V.int)) = true then (1 : Int) else 0))])) = _
      rw [ev]; rfl
  · rintro H2 ⟨s2, e2⟩
    have lp : (plusR r s').length = r.length := by unfold plusR; rw [List.length_map, List.length_range]
    rw [List.take_of_length_le (by omega)] at e2
    refine ⟨pl, _, rfl, .inl ⟨SqL.of e2, fun T hT => ?_⟩⟩
    have hT0 : H T = none := by
      cases e : H T with
      | none => rfl
      | some o => rw [s2 _ _ e] at hT; cases hT
    exact q T _ hT0 (s2.trans (same_new hT)) upd_same
theorem has_setsJ (D : DefAt K mg "_law_sets" s__law_sets) (B : Blt0 mg) : Has P w K mg base 1 "_law_sets" ["_law_many", "_law_most"] (spSetsJ K) := by
  refine D.has (fun _ _ _ _ _ _ us hl => match us, hl with | [_, _], _ => rfl) fun f fd F => F.ok sc__law_sets (fun vs H Q E h => ?_) (fun cdv A outer s H vs Q E hr h => ?_)
  · obtain ⟨n, m, rfl, _⟩ := h; rfl
  obtain ⟨n, m, rfl, n6, m1, q⟩ := h
  refine ⟨_, (pss_cons (ps_set (i := 2) sc__law_sets.nd rfl (.inl rfl) (pe_lst (pa_cons (pe_tup pa_nil) pa_nil)))
      (pss_cons (ps_for PassesOwn.never rfl (pi_range1 (by rfl) B.zrange (pa_cons (pv 0) pa_nil)) (pg_name (i := 3) sc__law_sets.nd rfl (.inr rfl)) (pss_one (ps_set (i := 2) sc__law_sets.nd rfl (.inl rfl) (pe_op op_cat (pv 2) (pe_lc (own := [("_law_some", 4)]) rfl sc__law_sets.nd (pi_list (pv 2)) (blkOk_by (N := ["_law_many", "_law_most", "_law_found", "_law_k", "_law_some"]) (sc := defScope s__law_sets) (own := [("_law_some", 4)]) (by decide +kernel)) (fun _ _ _ _ _ => (pg_name (i := 4) sc__law_sets.nd rfl (.inl rfl) (.inr rfl))) (fun _ _ _ _ _ => pts_nil) (fun _ _ _ _ _ => (pe_op (op_catUK (K := K) rfl) (pv 4) (pe_tup (pa_cons (pv 3) pa_nil)))))))))
      (pss_one (ps_ret (pe_callB (cr_sortE (hu2 (hu64 hr))) (by rfl) B.zsorted (by decide +kernel) (pa_cons (pe_lc (own := [("_law_some", 4)]) rfl sc__law_sets.nd (pi_list (pv 2)) (blkOk_by (N := ["_law_many", "_law_most", "_law_found", "_law_k", "_law_some"]) (sc := defScope s__law_sets) (own := [("_law_some", 4)]) (by decide +kernel)) (fun _ _ _ _ _ => (pg_name (i := 4) sc__law_sets.nd rfl (.inl rfl) (.inr rfl))) (fun _ _ _ _ _ => (pts_one (pt_cmpR op_le (pe_callB (lenS (K := K) rfl) (by rfl) B.zlen (by decide +kernel) (pa_cons (pv 4) pa_nil)) (pv 1) (nomark _)))) (fun _ _ _ _ _ => (pv 4))) pa_nil)))))), ?_⟩
  refine ⟨by show 0 ≤ sizeLine; decide, fun e0 he0 => ⟨by show 1 ≤ sizeLine; decide, fun L0 hL0 => ?_⟩⟩
  have s1 : Same H (upd (upd H e0 (.tup [])) L0 (.lst [.ref e0])) := (same_new he0).trans (same_new hL0)
  have f1 : (upd (upd H e0 (.tup [])) L0 (.lst [.ref e0])) e0 = some (.tup []) := same_new hL0 _ _ upd_same
  have f2 : (upd (upd H e0 (.tup [])) L0 (.lst [.ref e0])) L0 = some (.lst [.ref e0]) := upd_same
  revert s1 f1 f2
  generalize upd (upd H e0 (.tup [])) L0 (.lst [.ref e0]) = H1
  intro s1 f1 f2
  dsimp only [List.set]
  refine ⟨_, rfl, _, rfl, by omega, by omega, for_range (lo := 0) (n := ((n : Nat) : Int).toNat) (fun i σ Hn => Same H Hn ∧ ∃ L ys v3 v4, Hn L = some (.lst ys) ∧ DpAll K Hn ys ((subsL i).map rowD) ∧ σ = [some (.int (n : Int)), some (.int (m : Int)), some (.ref L), v3, v4])
    ⟨s1, L0, [.ref e0], _, _, f2, .cons (.tup (SqT.of f1) .nil) .nil, rfl⟩ ?_ ?_⟩
  · rintro i σ H2 hi ⟨s2, L, ys, v3, v4, e2, D2, rfl⟩
    have ly : ys.length = 2 ^ i := by rw [D2.length, List.length_map, subsL_len]
    have l64 : ys.length ≤ 64 := by rw [ly]; exact Nat.pow_le_pow_right (n := 2) (by decide) (show i ≤ 6 by omega)
    dsimp only [List.set]
    refine ⟨_, rfl, _, rfl, L, rfl, ⟨_, SqL.of e2⟩, fun pl hpl => ?_⟩
    refine lc_list (K := K) (a := L) (xs := ys) (fun j Hm => Same H2 Hm ∧ ∃ zs, Hm pl = some (.lst zs) ∧ zs.length = j ∧ DpAll K (hid pl Hm) zs ((((subsL i).take j).map (· ++ [(i : Int)])).map rowD)) ⟨same_new hpl, [], upd_same, rfl, by rw [List.take_zero]; exact .nil⟩ (fun _ _ _ z => z.1.seq (SqL.of e2)) ?_ ?_
    · rintro j x Hm hx ⟨sm, zs, em, lz, Dz⟩
      obtain ⟨d, hd, hv⟩ := D2.get hx
      rw [List.getElem?_map] at hd
      obtain ⟨r, hr1, rfl⟩ : ∃ r, (subsL i)[j]? = some r ∧ rowD r = d := by
        cases e : (subsL i)[j]? with
        | none => rw [e] at hd; cases hd
        | some r => rw [e] at hd; exact ⟨r, rfl, Option.some.inj hd⟩
      obtain ⟨t, xs, rfl, hT, hX⟩ := hv.tuple
      rw [dpa_int_eq hX] at hT
      have lr := subsL_each i r (List.mem_of_getElem? hr1)
      have jl : j < ys.length := (List.getElem?_eq_some_iff.mp hx).1
      refine ⟨rfl, yesIf ⟨_, rfl, _, rfl, by show 1 ≤ sizeLine; decide, fun q1 hq1 => ⟨t, q1, _, _, rfl, rfl, sameT (sm.trans (same_new hq1)) hT, SqT.of upd_same, ?_, fun p2 H5 s5 c5 S5 => ?_⟩⟩⟩
      · rw [List.length_map]; exact Nat.le_of_lt (small1000 (show r.length + 1 ≤ 1000 by omega))
      have s15 : Same Hm H5 := (same_new (o := .tup [.int (0 + (i : Int))]) hq1).trans s5
      have em5 := s15 _ _ em
      refine ⟨zs, em5, small1000 (by omega), Same.app hpl (sm.trans s15), zs ++ [.ref p2], upd_same, by rw [List.length_append, lz]; rfl, ?_⟩
      have e3 : r.map V.int ++ [V.int (0 + (i : Int))] = (r ++ [(i : Int)]).map V.int := by
        rw [List.map_append, show (0 : Int) + (i : Int) = (i : Int) by omega]; rfl
      rw [e3] at S5
      have Dn : Dp K (hid pl H5) (.ref p2) (rowD (r ++ [(i : Int)])) := .tup (seqT_hide em5 S5) (.ints _)
      have A := ((Dz.mono (hid_same (b := pl) s15)).snoc Dn).mono (hid_put (o := .lst (zs ++ [.ref p2])))
      rw [List.take_add_one, hr1, List.map_append, List.map_append]
      exact A
    rintro Hm ⟨sm, zs, em, lz, Dz⟩
    rw [List.take_of_length_le (by rw [subsL_len, ly]; exact Nat.le_refl _)] at Dz
    refine ⟨L, pl, ys, zs, rfl, rfl, sm _ _ e2, em, Nat.le_of_lt (small1000 (by omega)), fun p hp => ⟨(s2.trans sm).trans (same_new hp), p, ys ++ zs, _, _, upd_same, ?_, rfl⟩⟩
    rw [subsL, List.map_append]
    exact ((D2.mono sm).mono (same_new hp)).append ((Dz.mono hid_sub).mono (same_new hp))
  · rintro σ H2 ⟨s2, L, ys, v3, v4, e2, D2, rfl⟩
    have en : ((n : Nat) : Int).toNat = n := by omega
    rw [en] at D2
    have ly : ys.length = 2 ^ n := by rw [D2.length, List.length_map, subsL_len]
    have l64 : ys.length ≤ 64 := by rw [ly]; exact Nat.pow_le_pow_right (n := 2) (by decide) n6
    refine ⟨_, rfl, L, rfl, ⟨_, SqL.of e2⟩, fun pl hpl => ?_⟩
    refine lc_list (K := K) (a := L) (xs := ys) (fun j Hm => Same H2 Hm ∧ ∃ zs, Hm pl = some (.lst zs) ∧ zs.length ≤ j ∧ DpAll K (hid pl Hm) zs ((((subsL n).take j).filter fun s => decide (s.length ≤ m)).map rowD)) ⟨same_new hpl, [], upd_same, Nat.le_refl _, by rw [List.take_zero]; exact .nil⟩ (fun _ _ _ z => z.1.seq (SqL.of e2)) ?_ ?_
    · rintro j x Hm hx ⟨sm, zs, em, lz, Dz⟩
      obtain ⟨d, hd, hv⟩ := D2.get hx
      rw [List.getElem?_map] at hd
      obtain ⟨r, hr1, rfl⟩ : ∃ r, (subsL n)[j]? = some r ∧ rowD r = d := by
        cases e : (subsL n)[j]? with
        | none => rw [e] at hd; cases hd
        | some r => rw [e] at hd; exact ⟨r, rfl, Option.some.inj hd⟩
      have hv2 := hv.mono sm
      obtain ⟨t, xs, rfl, hT, hX⟩ := hv2.tuple
      have hxe := dpa_int_eq hX
      subst hxe
      have jl : j < ys.length := (List.getElem?_eq_some_iff.mp hx).1
      refine ⟨rfl, _, rfl, t, _, rfl, .inr hT, _, rfl, _, _, rfl, rfl, _, rfl, ?_⟩
      rw [List.length_map]
      refine ite2 (fun c => ?_) (fun c => ?_)
      · have c2 : r.length ≤ m := by have := of_decide_eq_true c; omega
        refine ⟨_, rfl, zs, em, small1000 (by omega), Same.app hpl sm, zs ++ [.ref t], upd_same, by rw [List.length_append]; show zs.length + 1 ≤ j + 1; omega, ?_⟩
        have Dn : Dp K (hid pl Hm) (.ref t) (rowD r) := .tup (seqT_hide em hT) (.ints _)
        have A := (Dz.snoc Dn).mono (hid_put (o := .lst (zs ++ [.ref t])))
        rw [List.take_add_one, hr1, List.filter_append]
        show DpAll K _ _ ((_ ++ [r].filter _).map rowD)
        rw [show [r].filter (fun s : List Int => decide (s.length ≤ m)) = [r] by simp [c2], List.map_append]
        exact A
      · have c2 : ¬ r.length ≤ m := fun z => c (decide_eq_true (by omega))
        refine ⟨sm, zs, em, by omega, ?_⟩
        rw [List.take_add_one, hr1, List.filter_append]
        show DpAll K _ _ ((_ ++ [r].filter _).map rowD)
        rw [show [r].filter (fun s : List Int => decide (s.length ≤ m)) = [] by simp [c2], List.append_nil]
        exact Dz
    rintro Hm ⟨sm, zs, em, lz, Dz⟩
    rw [List.take_of_length_le (by rw [subsL_len, ly]; exact Nat.le_refl _)] at Dz
    refine ⟨pl, zs, setsL n m, rfl, SqL.of em, Dz.mono hid_sub, sets_tail n m, fun ys2 rows2 p D3 S1 S2 hp => ?_⟩
    have h0 : H p = none := by
      cases e : H p with
      | none => rfl
      | some o => rw [sm _ _ (s2 _ _ e)] at hp; cases hp
    exact q p ys2 rows2 _ S1 S2 h0 ((s2.trans sm).trans (same_new hp)) upd_same (D3.mono (same_new hp))
end
end Ts
namespace Ts
open PySem PySem.Spec PyProof.Rows L2
section
variable {P : Program} {w : World} {K : PySem.W.Frag} {mg : Str → Option Value} {base : Heap}
theorem has_all_atJ (D : DefAt K mg "_law_all_at" s__law_all_at) (B : Blt0 mg) (h__law_near : Has P w K mg base 1 "_law_near" ["_law_share_here", "_law_many", "_law_t"] (spNearJ K)) : Has P w K mg base 2 "_law_all_at" ["_law_lot_here", "_law_t"] (spAllAtJ K) := by
  refine D.has (fun _ _ _ _ _ _ us hl => match us, hl with | [_, _], _ => rfl) fun f fd F => F.ok sc__law_all_at (fun vs H Q E h => ?_) (fun cdv A outer s H vs Q E hr h => ?_)
  · obtain ⟨p, q, n, js, t, rfl, _⟩ := h; rfl
  obtain ⟨p, q, n, js, t, rfl, hP, hJ, G, l6, qq⟩ := h
  refine ⟨_, (pss_cons (ps_set (i := 2) sc__law_all_at.nd rfl (.inl rfl) (pe_lst (pa_cons (pe_tup pa_nil) pa_nil)))
      (pss_cons (ps_for PassesOwn.never rfl (pi_list (pe_ix ix_tup (pv 0) pe_int (fun _ _ => rfl))) (pg_tup rfl (pgs_cons (pg_name (i := 3) sc__law_all_at.nd rfl (.inl rfl)) (pgs_cons (pg_tup rfl (pgs_cons (pg_name (i := 4) sc__law_all_at.nd rfl (.inr rfl)) (pgs_cons (pg_name (i := 5) sc__law_all_at.nd rfl (.inr rfl)) pgs_nil))) pgs_nil))) (pss_cons (ps_par (i := 6) (j := 7) (by rfl) sc__law_all_at.nd rfl rfl (by decide) rfl rfl (pa_cons (pe_op op_fdiv (pe_op op_mul (pv 1) (pv 4)) (pv 5)) (pa_cons (pe_lst pa_nil) pa_nil)) (by rfl))
      (pss_cons (ps_for PassesOwn.never rfl (pi_list (pv 2)) (pg_name (i := 8) sc__law_all_at.nd rfl (.inr rfl)) (pss_one (ps_set (i := 7) sc__law_all_at.nd rfl (.inl rfl) (pe_op op_cat (pv 7) (pe_lc (own := [("_law_many", 9)]) rfl sc__law_all_at.nd (pi_list (pe_lst (pa_cons (pv 6) (pa_cons (pe_op op_add (pv 6) pe_int) pa_nil)))) (blkOk_by (N := ["_law_lot_here", "_law_t", "_law_found", "_law_tag", "_law_e", "_law_p", "_law_low", "_law_later", "_law_some", "_law_many"]) (sc := defScope s__law_all_at) (own := [("_law_many", 9)]) (by decide +kernel)) (fun _ _ _ _ _ => (pg_name (i := 9) sc__law_all_at.nd rfl (.inl rfl) (.inr rfl))) (fun _ _ _ _ _ => (pts_one (pt_val (pe_h h__law_near (hr.mono (by decide)) (pa_cons (pe_tup (pa_cons (pv 4) (pa_cons (pv 5) pa_nil))) (pa_cons (pv 9) (pa_cons (pv 1) pa_nil))))))) (fun _ _ _ _ _ => (pe_op op_catV (pv 8) (pe_tup (pa_cons (pv 9) pa_nil)))))))))
      (pss_one (ps_set (i := 2) sc__law_all_at.nd rfl (.inl rfl) (pv 7))))))
      (pss_one (ps_ret (pv 2))))), ?_⟩
  obtain ⟨q2, xs, e0, hS, hA⟩ := hJ.list
  cases e0
  have hxl : xs.length = js.length := by rw [hA.length, List.length_map]
  refine ⟨by show 0 ≤ sizeLine; decide, fun pt hpt => ⟨by show 1 ≤ sizeLine; decide, fun pl hpl => ?_⟩⟩
  have s1 : Same H (upd (upd H pt (.tup [])) pl (.lst [.ref pt])) := (same_new hpt).trans (same_new hpl)
  have f1 : H pl = none := by
    cases e : H pl with
    | none => rfl
    | some o => rw [same_new hpt _ _ e] at hpl; cases hpl
  have n1 : (upd (upd H pt (.tup [])) pl (.lst [.ref pt])) pl = some (.lst [.ref pt]) := upd_same
  have n2 : (upd (upd H pt (.tup [])) pl (.lst [.ref pt])) pt = some (.tup []) := same_new hpl _ _ upd_same
  revert s1 n1 n2
  generalize upd (upd H pt (.tup [])) pl (.lst [.ref pt]) = H1
  intro s1 n1 n2
  refine ⟨_, rfl, p, _, 1, _, rfl, rfl, sameT s1 hP, atI_nat (j := 1) rfl, q, rfl, ⟨_, s1.seq hS⟩, for_list (K := K) (a := q) (xs := xs) (fun i σ Hn => Same H Hn ∧ ∃ fp ys v3 v4 v5 v6 v7 v8 v9, H fp = none ∧ Hn fp = some (.lst ys) ∧ RowT Hn ys (rowsR (js.take i) t) ∧ σ = [some (.ref p), some (.int t), some (.ref fp), v3, v4, v5, v6, v7, v8, v9]) ⟨s1, pl, _, _, _, _, _, _, _, _, f1, n1, .cons ?_ .nil, rfl⟩ (fun _ _ _ _ z => z.1.seq hS) ?_ ?_⟩
  · exact n2
  · clear s1 n1 n2 f1 hpl hpt
    rintro i x σ H2 hx ⟨s2, fp, rs, v3, v4, v5, v6, v7, v8, v9, ff, ef, hrA, rfl⟩
    obtain ⟨j, ja, jq, hj, rfl, ha, hq⟩ := job_at hA hx
    have gp := G.part j (List.mem_of_getElem? hj)
    obtain ⟨g1, g2, g3, g4⟩ := id gp
    have hp0 : 0 < j.2.2 := by omega
    have lr : rs.length = (rowsR (js.take i) t).length := hrA.length
    have kl : (keptL j.2.1 j.2.2 t).length ≤ 2 := kept_len
    have rl : (rowsR (js.take i) t).length ≤ 64 := Nat.le_trans rows_len (Nat.pow_le_pow_right (n := 2) (by decide) (by rw [List.length_take]; omega : (js.take i).length ≤ 6))
    have ek : rowsR (js.take (i + 1)) t = growR (rowsR (js.take i) t) (keptL j.2.1 j.2.2 t) := by
      unfold rowsR optsR
      rw [map_take_succ _ hj]
      unfold picksR
      rw [List.foldl_append]; rfl
    have re : ∀ r ∈ rowsR (js.take i) t, r.length = (js.take i).length := rows_each
    rw [ek]
    generalize rowsR (js.take i) t = rows at hrA lr rl re
    refine ⟨ja, _, rfl, sameT s2 ha, rfl, _, _, rfl, _, _, rfl, jq, _, rfl, sameT s2 hq, rfl, _, _, rfl, _, _, rfl, rfl, rfl, ?_⟩
    refine ⟨_, rfl, _, rfl, _, _, rfl, rfl, .inr ⟨by omega, by omega⟩, _, rfl, _, _, rfl, rfl, ⟨by omega, by omega⟩, by show 0 ≤ sizeLine; decide, fun lp hlp => ⟨_, _, rfl, ?_⟩⟩
    have s3 : Same H2 (upd H2 lp (.lst [])) := same_new hlp
    have e3 : (upd H2 lp (.lst [])) lp = some (.lst []) := upd_same
    have f3 : H lp = none := by
      cases e : H lp with
      | none => rfl
      | some o => rw [s2 _ _ e] at hlp; cases hlp
    revert s3 e3
    generalize upd H2 lp (.lst []) = H3
    intro s3 e3
    dsimp only [List.set]
    have elow : t * (j.2.1 : Int) / (j.2.2 : Int) = lowI j.2.1 j.2.2 t := rfl
    rw [elow]
    refine ⟨_, rfl, fp, rfl, ⟨_, SqL.of (s3 _ _ ef)⟩, for_list (K := K) (a := fp) (xs := rs) (fun k σ Hn => Same H3 Hn ∧ ∃ lp zs w8 w9, H lp = none ∧ Hn lp = some (.lst zs) ∧ RowT Hn zs (growR (rows.take k) (keptL j.2.1 j.2.2 t)) ∧ σ = [some (.ref p), some (.int t), some (.ref fp), some (.str j.1), some (.int (j.2.1 : Int)), some (.int (j.2.2 : Int)), some (.int (lowI j.2.1 j.2.2 t)), some (.ref lp), w8, w9]) ⟨fun _ _ z => z, lp, [], _, _, f3, e3, .nil, rfl⟩ (fun _ _ _ _ z => SqL.of (z.1 _ _ (s3 _ _ ef))) ?_ ?_⟩
    · rintro k r σ H4 hr4 ⟨s4, lp, zs, w8, w9, f4, e4, hz, rfl⟩
      obtain ⟨ra, r0, rfl, er, hra⟩ := hrA.get hr4
      have lk : k < rows.length := (List.getElem?_eq_some_iff.mp er).1
      have s24 := s3.trans s4
      have zl := hz.length
      rw [grow_len, List.length_take] at zl
      have l5 : min k rows.length * (keptL j.2.1 j.2.2 t).length ≤ 64 * 2 := Nat.mul_le_mul (by omega) kl
      have lr0 := re r0 (List.mem_of_getElem? er)
      rw [List.length_take] at lr0
      refine ⟨_, rfl, _, rfl, _, rfl, _, _, rfl, rfl, by show 2 ≤ sizeLine; decide, fun kp hkp => ?_⟩
      have s5 : Same H4 (upd H4 kp (.lst [.int (lowI j.2.1 j.2.2 t), .int (lowI j.2.1 j.2.2 t + 1)])) := same_new hkp
      have e5 : (upd H4 kp (.lst [V.int (lowI j.2.1 j.2.2 t), .int (lowI j.2.1 j.2.2 t + 1)])) kp = some (.lst ([lowI j.2.1 j.2.2 t, lowI j.2.1 j.2.2 t + 1].map V.int)) := upd_same
      refine at_heap (fun Hx => Same H4 Hx ∧ Hx kp = some (.lst ([lowI j.2.1 j.2.2 t, lowI j.2.1 j.2.2 t + 1].map V.int))) ⟨s5, e5⟩ ?_
      clear s5 e5 hkp
      rintro H5 ⟨s5, e5⟩
      refine ⟨kp, rfl, ⟨_, SqL.of e5⟩, fun ml hml => ?_⟩
      refine lc_list (K := K) (a := kp) (xs := [lowI j.2.1 j.2.2 t, lowI j.2.1 j.2.2 t + 1].map V.int) (fun m Hm => Same H5 Hm ∧ ∃ us, Hm ml = some (.lst us) ∧ us.length ≤ m ∧ RowT (hid ml Hm) us ((([lowI j.2.1 j.2.2 t, lowI j.2.1 j.2.2 t + 1].take m).filter fun y => nearB j.2.1 j.2.2 y t).map fun x => r0 ++ [x])) ⟨same_new hml, [], upd_same, Nat.le_refl _, .nil⟩ (fun _ _ _ z => SqL.of (z.1 _ _ e5)) ?_ ?_
      · rintro m y H6 hy ⟨s6, us, e6, lu, hu6⟩
        rw [List.getElem?_map] at hy
        cases em : [lowI j.2.1 j.2.2 t, lowI j.2.1 j.2.2 t + 1][m]? with
        | none => rw [em] at hy; cases hy
        | some y0 =>
        rw [em] at hy
        cases Option.some.inj hy
        have lm : m < 2 := (List.getElem?_eq_some_iff.mp em).1
        refine ⟨rfl, _, rfl, _, rfl, by show 2 ≤ sizeLine; decide, fun pp hpp => ⟨_, rfl, _, rfl, .ref pp, j.2.1, j.2.2, y0, t, rfl, .tup (SqT.of upd_same) (.cons (.int _) (.cons (.int _) .nil)), gp, _, rfl, ?_⟩⟩
        have s6b : Same H6 (upd H6 pp (.tup [.int (j.2.1 : Int), .int (j.2.2 : Int)])) := same_new hpp
        have e6b := s6b _ _ e6
        have hu6b := hu6.mono (hid_same (b := ml) s6b)
        revert s6b e6b hu6b
        generalize upd H6 pp (.tup [.int (j.2.1 : Int), .int (j.2.2 : Int)]) = H6b
        intro s6b e6b hu6b
        rw [List.take_add_one, em, List.filter_append]
        cases nb : nearB j.2.1 j.2.2 y0 t with
        | false =>
          refine iteF ⟨s6.trans s6b, us, e6b, by omega, ?_⟩
          show RowT _ _ ((_ ++ [y0].filter _).map _)
          rw [show [y0].filter (fun y => nearB j.2.1 j.2.2 y t) = [] by simp [nb], List.append_nil]
          exact hu6b
        | true =>
          refine iteT ⟨_, rfl, _, rfl, by show 1 ≤ sizeLine; decide, fun pn hpn => ?_⟩
          have e7 : (upd H6b pn (.tup [.int y0])) pn = some (.tup [.int y0]) := upd_same
          have s7 : Same H6b (upd H6b pn (.tup [.int y0])) := same_new hpn
          revert e7 s7
          generalize upd H6b pn (.tup [.int y0]) = H7
          intro e7 s7
          have s57 := s5.trans ((s6.trans s6b).trans s7)
          refine ⟨ra, pn, _, _, rfl, rfl, (s24.trans s57) _ _ hra, e7, ?_, fun pr H8 s8 _ hpr => ?_⟩
          · rw [List.length_map]
            exact Nat.le_of_lt (small1000 (show r0.length + 1 ≤ 1000 by omega))
          have e8 := s8 _ _ (s7 _ _ e6b)
          have er8 : r0.map V.int ++ [V.int y0] = (r0 ++ [y0]).map V.int := by rw [List.map_append]; rfl
          rw [er8] at hpr
          refine ⟨us, e8, small1000 (by omega), Same.app hml ((s6.trans s6b).trans (s7.trans s8)), _, upd_same, by rw [List.length_append]; show us.length + 1 ≤ m + 1; omega, ?_⟩
          show RowT _ _ ((_ ++ [y0].filter _).map _)
          rw [show [y0].filter (fun y => nearB j.2.1 j.2.2 y t) = [y0] by simp [nb], List.map_append]
          exact ((hu6b.mono (hid_same (s7.trans s8))).mono hid_put).snoc (hid_put _ _ ((hid_ne (fun z => by rw [z, e8] at hpr; cases hpr)).trans hpr))
      rintro H6 ⟨s6, us, e6, lu, hu6⟩
      rw [List.length_map, List.take_length, near_kept hp0] at hu6
      have s46 := s5.trans s6
      have lu2 : us.length ≤ 2 := lu
      refine ⟨lp, ml, zs, us, rfl, rfl, s46 _ _ e4, e6, Nat.le_of_lt (small1000 (by omega)), fun np hnp => ?_⟩
      have s7 : Same H6 (upd H6 np (.lst (zs ++ us))) := same_new hnp
      have f5 : H np = none := by
        cases e : H np with
        | none => rfl
        | some o => rw [s46 _ _ (s24 _ _ (s2 _ _ e))] at hnp; cases hnp
      refine ⟨s4.trans (s46.trans s7), np, zs ++ us, _, _, f5, upd_same, ?_, rfl⟩
      rw [grow_snoc er]
      exact (hz.mono (s46.trans s7)).append (hu6.mono (hid_sub.trans s7))
    · rintro σ H4 ⟨s4, lp', zs, w8, w9, f4, e4, hz, rfl⟩
      rw [List.take_of_length_le (by omega)] at hz
      exact ⟨_, rfl, s2.trans (s3.trans s4), lp', zs, _, _, _, _, _, _, _, f4, e4, hz, rfl⟩
  · rintro σ H2 ⟨s2, fp, rs, v3, v4, v5, v6, v7, v8, v9, ff, ef, hrA, rfl⟩
    rw [hxl, List.take_length] at hrA
    exact ⟨_, rfl, qq fp rs H2 ff s2 ef hrA⟩
end
end Ts
namespace Ts
open PySem PySem.Spec PyProof.Rows L2
section
variable {P : Program} {w : World} {K : PySem.W.Frag} {mg : Str → Option Value} {base : Heap}
theorem has_livingJ (D : DefAt K mg "_law_living" s__law_living) (B : Blt0 mg) (h__law_span : Has P w K mg base 1 "_law_span" ["_law_lot_here"] (spSpanJ K)) (h__law_all_at : Has P w K mg base 2 "_law_all_at" ["_law_lot_here", "_law_t"] (spAllAtJ K)) (h__law_sets : Has P w K mg base 1 "_law_sets" ["_law_many", "_law_most"] (spSetsJ K)) (h__law_plus : Has P w K mg base 1 "_law_plus" ["_law_had", "_law_given"] (spPlusJ K)) : Has P w K mg base 3 "_law_living" ["_law_lot_here"] (spLivingJ K) := by
  refine D.has (fun _ _ _ _ _ _ us hl => match us, hl with | [_], _ => rfl) fun f fd F => F.ok sc__law_living (fun vs H Q E h => ?_) (fun cdv A outer s H vs Q E hr h => ?_)
  · obtain ⟨p, q, n, js, rfl, _⟩ := h; rfl
  obtain ⟨p, q, n, js, rfl, hP, hJ, G, D12, l0, l6, n1, qq⟩ := h
  have hu : (A.deeper (envOfC "_law_living" (defScope s__law_living) s.heap.objs.size f cdv)).units + 1 < cLine := by have := hu64 hr; omega
  refine ⟨_, (pss_cons (ps_set (i := 1) sc__law_living.nd rfl (.inl rfl) (pe_h h__law_span (hr.mono (by decide)) (pa_cons (pv 0) pa_nil)))
      (pss_cons (ps_set (i := 3) sc__law_living.nd rfl (.inr rfl) (pe_lst (pa_cons (pe_callTy (call_dictTP rfl (hu2 (hu64 hr))) (by rfl) B.zdict (by decide +kernel) (pa_cons (pe_lc (own := [("_law_had", 2)]) rfl sc__law_living.nd (pi_list (pe_h h__law_all_at (hr.mono (by decide)) (pa_cons (pv 0) (pa_cons (pv 1) pa_nil)))) (blkOk_by (N := ["_law_lot_here", "_law_span_here", "_law_had", "_law_found", "_law_sets_here", "_law_t", "_law_here", "_law_s", "_law_row"]) (sc := defScope s__law_living) (own := [("_law_had", 2)]) (by decide +kernel)) (fun _ _ _ _ _ => (pg_name (i := 2) sc__law_living.nd rfl (.inl rfl) (.inr rfl))) (fun _ _ _ _ _ => pts_nil) (fun _ _ _ _ _ => (pe_tup (pa_cons (pv 2) (pa_cons pe_bl pa_nil))))) pa_nil)) pa_nil)))
      (pss_cons (ps_set (i := 4) sc__law_living.nd rfl (.inl rfl) (pe_h h__law_sets (hr.mono (by decide)) (pa_cons (pe_callB call_len_seq (by rfl) B.zlen (by decide +kernel) (pa_cons (pe_ix ix_tup (pv 0) pe_int (fun _ _ => rfl)) pa_nil)) (pa_cons (pe_ix ix_tup (pv 0) pe_int (fun _ _ => rfl)) pa_nil))))
      (pss_cons (ps_for PassesOwn.never rfl (pi_range3 (by rfl) B.zrange (pa_cons (pe_op op_sub (pv 1) pe_int) (pa_cons (pe_un un_neg pe_int) (pa_cons (pe_un un_neg pe_int) pa_nil)))) (pg_name (i := 5) sc__law_living.nd rfl (.inl rfl)) (pss_cons (ps_set (i := 6) sc__law_living.nd rfl (.inl rfl) pe_dnewT)
      (pss_cons (ps_for PassesOwn.never rfl (pi_list (pe_h h__law_all_at (hr.mono (by decide)) (pa_cons (pv 0) (pa_cons (pv 5) pa_nil)))) (pg_name (i := 2) sc__law_living.nd rfl (.inr rfl)) (pss_one (ps_if (pt_cmpR (op_neD (hu64 hr)) (pe_lc (own := [("_law_s", 7)]) rfl sc__law_living.nd (pi_list (pv 4)) (blkOk_by (N := ["_law_lot_here", "_law_span_here", "_law_had", "_law_found", "_law_sets_here", "_law_t", "_law_here", "_law_s", "_law_row"]) (sc := defScope s__law_living) (own := [("_law_s", 7)]) (by decide +kernel)) (fun _ _ _ _ _ => (pg_name (i := 7) sc__law_living.nd rfl (.inl rfl) (.inr rfl))) (fun _ _ _ _ _ => (pts_one (pt_cmp (pc_din hu (pe_h h__law_plus (hr.mono (by decide)) (pa_cons (pv 2) (pa_cons (pv 7) pa_nil))) (pe_ix (ixL (K := K) rfl) (pv 3) pe_int (fun _ _ => rfl)))))) (fun _ _ _ _ _ => (pv 7))) (pe_lst pa_nil) (nomark _)) (pss_one (ps_dput hu (pv 6) (pv 2) pe_bl rfl)) pss_nil)))
      (pss_one (ps_expr (pe_bm PySem.F.plainAttrs_list PySem.F.slot_list_insert PySem.F.type_list_insert mt_insert (pv 3) (pa_cons pe_int (pa_cons (pv 6) pa_nil))))))))
      (pss_one (ps_ret (pe_ifExp (pt_cmpR (op_neE (Nat.lt_of_succ_lt hu)) (pe_ix ix_list (pv 3) pe_int (fun _ _ => rfl)) pe_dnewT (nomark _)) (pv 3) (pe_lc (own := [("_law_row", 8)]) rfl sc__law_living.nd (pi_list (pv 3)) (blkOk_by (N := ["_law_lot_here", "_law_span_here", "_law_had", "_law_found", "_law_sets_here", "_law_t", "_law_here", "_law_s", "_law_row"]) (sc := defScope s__law_living) (own := [("_law_row", 8)]) (by decide +kernel)) (fun _ _ _ _ _ => (pg_name (i := 8) sc__law_living.nd rfl (.inl rfl) (.inr rfl))) (fun _ _ _ _ _ => pts_nil) (fun _ _ _ _ _ => pe_dnewT))))))))), ?_⟩
  refine ⟨_, rfl, p, q, n, js, rfl, hP, hJ, G, D12, l6, fun H1 s1 => ?_⟩
  have hP1 := sameT s1 hP
  have hJ1 := hJ.mono s1
  dsimp only [List.set]
  -- the last moment
  refine ⟨_, rfl, _, rfl, p, q, n, js, (spanN js : Int), rfl, hP1, hJ1, G, l6, fun r0 ys0 H2 hr0 s2 e2 R2 => ?_⟩
  refine ⟨r0, rfl, ⟨_, SqL.of e2⟩, fun pl hpl => ?_⟩
  have ly : ys0.length = (rowsR js (spanN js : Int)).length := R2.length
  have l64 : ys0.length ≤ 64 := by rw [ly]; exact Nat.le_trans rows_len (Nat.pow_le_pow_right (n := 2) (by decide) l6)
  refine lc_list (K := K) (a := r0) (xs := ys0) (fun i Hm => Same H2 Hm ∧ ∃ ps qs, Hm pl = some (.lst (ps.map V.ref)) ∧ PairT (hid pl Hm) ps qs ((rowsR js (spanN js : Int)).take i)) ⟨same_new hpl, [], [], upd_same, by rw [List.take_zero]; exact .nil⟩ (fun _ _ _ z => z.1.seq (SqL.of e2)) ?_ ?_
  · rintro i x Hm hx ⟨sm, ps, qs, em, Pm⟩
    obtain ⟨a, r, rfl, hr1, ha⟩ := R2.get hx
    have il : i < ys0.length := (List.getElem?_eq_some_iff.mp hx).1
    refine ⟨rfl, yesIf ⟨_, rfl, by show 2 ≤ sizeLine; decide, fun pp hpp => ?_⟩⟩
    have s5 : Same Hm (upd Hm pp (.tup [.ref a, .bl true])) := same_new hpp
    have em5 := s5 _ _ em
    have npp : pp ≠ pl := fun z => by rw [z, em] at hpp; cases hpp
    have nal : a ≠ pl := fun z => by rw [z] at ha; rw [ha] at hpl; cases hpl
    have lps : ps.length ≤ i := by
      have := Pm.pairs (K := K)
      rw [this.2.2, List.length_take]; omega
    refine ⟨ps.map V.ref, em5, by rw [List.length_map]; exact small1000 (by omega), Same.app hpl (sm.trans s5), ps ++ [pp], qs ++ [(keyR r, a, .bl true)], by rw [upd_same, List.map_append]; rfl, ?_⟩
    rw [List.take_add_one, hr1]
    refine ((Pm.mono (hid_same (b := pl) s5)).mono hid_put).snoc ?_ ?_
    · exact hid_put _ _ ((hid_ne npp).trans upd_same)
    · exact hid_put _ _ ((hid_ne nal).trans ((sm.trans s5) _ _ ha))
  rintro Hm ⟨sm, ps, qs, em, Pm⟩
  rw [List.take_of_length_le (by omega)] at Pm
  obtain ⟨g1, g2, g3⟩ := (Pm.mono hid_sub).pairs (K := K)
  refine ⟨pl, ps, qs, rfl, SqL.of em, g1, fun d0 hd0 => ?_⟩
  rw [g2, show mergeT [] (rowsK (rowsR js (spanN js : Int))) = rowsK (rowsR js (spanN js : Int)) from merge_rows (rows := []) (rows_nodup js _)]
  refine ⟨by show 1 ≤ sizeLine; decide, fun L hL => ?_⟩
  have hL0 : H L = none := by
    cases e : H L with
    | none => rfl
    | some o => rw [same_new hd0 _ _ (sm _ _ (s2 _ _ (s1 _ _ e)))] at hL; cases hL
  have s3 : Same H (upd (upd Hm d0 (.dT (rowsK (rowsR js (spanN js : Int))))) L (.lst [.ref d0])) := (((s1.trans s2).trans sm).trans (same_new hd0)).trans (same_new hL)
  have f1 : (upd (upd Hm d0 (.dT (rowsK (rowsR js (spanN js : Int))))) L (.lst [.ref d0])) d0 = some (.dT (rowsK (rowsR js (spanN js : Int)))) := same_new hL _ _ upd_same
  have f2 : (upd (upd Hm d0 (.dT (rowsK (rowsR js (spanN js : Int))))) L (.lst [.ref d0])) L = some (.lst [.ref d0]) := upd_same
  revert s3 f1 f2
  generalize upd (upd Hm d0 (.dT (rowsK (rowsR js (spanN js : Int))))) L (.lst [.ref d0]) = H3
  intro s3 f1 f2
  clear hL hd0 g1 g2 g3 Pm em sm Hm hpl R2 e2 s2 hr0 ly l64 H2 hP1 hJ1 s1 H1
  dsimp only [List.set]
  -- the sets
  obtain ⟨q2, xs, e0, hS, hA⟩ := hJ.list
  cases e0
  have hxl : xs.length = js.length := by rw [hA.length, List.length_map]
  refine ⟨_, rfl, p, _, 1, _, rfl, rfl, sameT s3 hP, atI_nat (j := 1) rfl, q, _, rfl, .inl (s3.seq hS), _, rfl, p, _, 0, _, rfl, rfl, sameT s3 hP, atI_nat (j := 0) rfl, js.length, n, by rw [hxl]; rfl, l6, n1, fun S zs rows2 H4 srt stb hS4 s4 e4 D4 => ?_⟩
  have s04 := s3.trans s4
  have f1' := s4 _ _ f1
  have f2' := s4 _ _ f2
  have nSL : S ≠ L := fun z => by rw [z, f2] at hS4; cases hS4
  dsimp only [List.set]
  -- back from the end
  refine ⟨_, rfl, _, _, rfl, rfl, _, rfl, _, rfl, _, _, _, spanN js, rfl, rgc_down (by have := span12_le D12; omega), ?_⟩
  refine for_rangeC (lo := (spanN js : Int) - 1) (c := -1) (n := spanN js) (fun i σ Hn => But L H4 Hn ∧ ∃ ys v2 v5 v6 v7 v8, Hn L = some (.lst ys) ∧ LivAll Hn ys ((List.range (i + 1)).map fun m => livR js rows2 (i - m)) ∧ σ = [some (.ref p), some (.int (spanN js : Int)), v2, some (.ref L), some (.ref S), v5, v6, v7, v8])
    ⟨But.refl, _, _, _, _, _, _, f2', .cons ⟨d0, rfl, f1'⟩ .nil, rfl⟩ ?_ ?_
  · rintro i σ H5 hi ⟨b5, ys, v2, v5, v6, v7, v8, e5, A5, rfl⟩
    have emo : ((spanN js : Int) - 1) + ((i : Nat) : Int) * (-1) = (spanN js : Int) - ((i + 1 : Nat) : Int) := by omega
    rw [emo]
    have toS : ∀ {Hn : Hp}, But L H4 Hn → Same H Hn := fun {Hn} bt x o e => bt x o (ne_of_none e hL0) (s04 x o e)
    have s05 := toS b5
    dsimp only [List.set]
    refine fun dn hdn => ?_
    have ndn : dn ≠ L := fun z => by rw [z, e5] at hdn; cases hdn
    have s6 : Same H5 (upd H5 dn (.dT [])) := same_new hdn
    have f6 : (upd H5 dn (.dT [])) dn = some (.dT []) := upd_same
    revert s6 f6
    generalize upd H5 dn (.dT []) = H6
    intro s6 f6
    dsimp only [List.set]
    refine ⟨_, rfl, _, rfl, p, q, n, js, _, rfl, sameT (s05.trans s6) hP, hJ.mono (s05.trans s6), G, l6, fun r1 ws H7 hr1 s7 e7 R7 => ?_⟩
    have s57 := s6.trans s7
    have f7 := s7 _ _ f6
    have e7L := s57 _ _ e5
    have nr1 : r1 ≠ dn := fun z => by rw [z, f6] at hr1; cases hr1
    have nLd : L ≠ dn := ndn.symm
    have lr := R7.length
    have l64 : ws.length ≤ 64 := by rw [lr]; exact Nat.le_trans rows_len (Nat.pow_le_pow_right (n := 2) (by decide) l6)
    have each := rows_each (js := js) (t := (spanN js : Int) - ((i + 1 : Nat) : Int))
    have nd := rows_nodup js ((spanN js : Int) - ((i + 1 : Nat) : Int))
    have el : livR js rows2 (i + 1) = (rowsR js ((spanN js : Int) - ((i + 1 : Nat) : Int))).filter (goB js rows2 i) := rfl
    generalize rowsR js ((spanN js : Int) - ((i + 1 : Nat) : Int)) = rows at R7 lr each nd el
    refine ⟨r1, rfl, ⟨_, SqL.of e7⟩, for_list (K := K) (a := r1) (xs := ws) (fun k σ Hn => But dn H7 Hn ∧ Hn dn = some (.dT (rowsK ((rows.take k).filter (goB js rows2 i)))) ∧ ∃ w2 w7, σ = [some (.ref p), some (.int (spanN js : Int)), w2, some (.ref L), some (.ref S), some (.int ((spanN js : Int) - ((i + 1 : Nat) : Int))), some (.ref dn), w7, v8]) ⟨But.refl, f7, _, _, rfl⟩ (fun _ _ _ _ z => SqL.of (z.1 _ _ nr1 e7)) ?_ ?_⟩
    · rintro k x σ H8 hx ⟨b8, f8, w2, w7, rfl⟩
      obtain ⟨a, r, rfl, hrk, ha⟩ := R7.get hx
      have nad : a ≠ dn := fun z => by rw [z, f7] at ha; cases ha
      have s58 : Same H5 H8 := fun c o e => b8 c o (fun z => by rw [z, hdn] at e; cases e) (s57 _ _ e)
      have a8 := b8 _ _ nad ha
      have e8L := s58 _ _ e5
      have A8 := A5.mono s58
      have e8S := s58 _ _ (b5 _ _ nSL e4)
      have D8 := (dpa_butS f2' b5 (tupS_rows rows2) D4).mono s58
      have lz : zs.length = rows2.length := by rw [D4.length, List.length_map]
      have lz64 : zs.length ≤ 64 := by
        rw [lz, stb.perm.length_eq]
        exact Nat.le_trans (List.length_filter_le _ _) (by rw [subsL_len]; exact Nat.pow_le_pow_right (n := 2) (by decide) l6)
      obtain ⟨d1, hd1, hd1'⟩ := A8.head (rows := livR js rows2 i) (by rw [List.getElem?_map, List.getElem?_range (Nat.zero_lt_succ i)]; rfl)
      have lrr := each r (List.mem_of_getElem? hrk)
      dsimp only [List.set]
      refine ⟨_, rfl, S, rfl, ⟨_, SqL.of e8S⟩, fun pl hpl => ?_⟩
      refine lc_list (K := K) (a := S) (xs := zs) (fun j Hm => Same H8 Hm ∧ ∃ us, Hm pl = some (.lst us) ∧ us.length ≤ j ∧ DpAll K (hid pl Hm) us (((rows2.take j).filter fun s => decide (plusR r s ∈ livR js rows2 i)).map rowD)) ⟨same_new hpl, [], upd_same, Nat.le_refl _, by rw [List.take_zero]; exact .nil⟩ (fun _ _ _ z => SqL.of (z.1 _ _ e8S)) ?_ ?_
      · rintro j y Hm hy ⟨sm, us, em, lu, Dm⟩
        obtain ⟨d, hd, hv⟩ := D8.get hy
        rw [List.getElem?_map] at hd
        obtain ⟨s', hs1, rfl⟩ : ∃ s', rows2[j]? = some s' ∧ rowD s' = d := by
          cases e : rows2[j]? with
          | none => rw [e] at hd; cases hd
          | some s' => rw [e] at hd; exact ⟨s', rfl, Option.some.inj hd⟩
        obtain ⟨g, xs', rfl, hT, hX⟩ := hv.tuple
        cases dpa_int_eq hX
        have jl : j < zs.length := (List.getElem?_eq_some_iff.mp hy).1
        refine ⟨rfl, _, rfl, _, rfl, a, g, r, s', rfl, SqT.of (sm _ _ a8), sameT sm hT, by omega, fun pp Hq hpp sq epp => ?_⟩
        have smq := sm.trans sq
        refine ⟨_, rfl, L, ys, 0, .ref d1, rfl, rfl, SqL.of (smq _ _ e8L), atI_nat (j := 0) hd1, d1, _, rfl, DGet.t (k := keyR (plusR r s')) (smq _ _ hd1') (by rw [keyR_V]; exact epp), _, rfl, ?_⟩
        rw [val_rows, List.take_add_one, hs1, List.filter_append]
        cases nb : decide (plusR r s' ∈ livR js rows2 i) with
        | false =>
          refine iteF ⟨smq, us, sq _ _ em, by omega, ?_⟩
          show DpAll K _ _ ((_ ++ [s'].filter _).map rowD)
          rw [show [s'].filter (fun s => decide (plusR r s ∈ livR js rows2 i)) = [] by simp [of_decide_eq_false nb], List.append_nil]
          exact Dm.mono (hid_same (b := pl) sq)
        | true =>
          refine iteT ⟨_, rfl, us, sq _ _ em, small1000 (by omega), Same.app hpl smq, us ++ [.ref g], upd_same, by rw [List.length_append]; show us.length + 1 ≤ j + 1; omega, ?_⟩
          show DpAll K _ _ ((_ ++ [s'].filter _).map rowD)
          rw [show [s'].filter (fun s => decide (plusR r s ∈ livR js rows2 i)) = [s'] by simp [of_decide_eq_true nb], List.map_append]
          exact ((Dm.mono (hid_same (b := pl) sq)).snoc (.tup (seqT_hide (sq _ _ em) (sameT smq hT)) (.ints _))).mono (hid_put (o := .lst (us ++ [.ref g])))
      rintro Hm ⟨sm, us, em, lu, Dm⟩
      rw [List.take_of_length_le (by omega)] at Dm
      refine ⟨by show 0 ≤ sizeLine; decide, fun q0 hq0 => ?_⟩
      have sq : Same Hm (upd Hm q0 (.lst [])) := same_new hq0
      refine ⟨_, .list [], .lst (SqL.of (sq _ _ em)) ((Dm.mono hid_sub).mono sq), .lst (SqL.of upd_same) .nil, shaped_rowsL _, by decide, _, rfl, ?_⟩
      rw [eqv_rowsL, filter_any]
      have s8q := sm.trans sq
      have ek : (rows.take (k + 1)).filter (goB js rows2 i) = (rows.take k).filter (goB js rows2 i) ++ [r].filter (goB js rows2 i) := by rw [List.take_add_one, hrk, List.filter_append]; rfl
      rw [ek]
      cases gb : goB js rows2 i r with
      | false =>
        rw [show (rows2.any fun s => decide (plusR r s ∈ livR js rows2 i)) = false from gb, show [r].filter (goB js rows2 i) = [] by simp [gb], List.append_nil]
        exact iteF ⟨b8.trans' s8q, s8q _ _ f8, _, _, rfl⟩
      | true =>
        rw [show (rows2.any fun s => decide (plusR r s ∈ livR js rows2 i)) = true from gb, show [r].filter (goB js rows2 i) = [r] by simp [gb]]
        have kl : k < ws.length := (List.getElem?_eq_some_iff.mp hx).1
        have fresh : r ∉ (rows.take k).filter (goB js rows2 i) := fun z => by
          have z2 := (List.mem_filter.mp z).1
          obtain ⟨m, hm, em⟩ := List.mem_iff_getElem.mp z2
          rw [List.length_take] at hm
          rw [List.getElem_take] at em
          obtain ⟨hk2, ek2⟩ := List.getElem?_eq_some_iff.mp hrk
          have := (List.getElem_inj (h₀ := by omega) (h₁ := hk2) nd).mp (em.trans ek2.symm)
          omega
        refine iteT ⟨_, rfl, _, rfl, dn, _, rfl, DPut.t (k := keyR r) (s8q _ _ f8) (by rw [keyR_V]; exact s8q _ _ a8) ?_, (b8.trans' s8q).trans But.set, by rw [upd_same, put_fresh fresh], _, _, rfl⟩
        unfold rowsK
        rw [List.length_map]
        exact Nat.lt_of_le_of_lt (Nat.le_trans (List.length_filter_le _ _) (by rw [List.length_take]; exact Nat.min_le_right _ _)) (small1000 (by omega))
    · rintro σ H8 ⟨b8, f8, w2, w7, rfl⟩
      rw [List.take_of_length_le (by omega)] at f8
      have s58 : Same H5 H8 := fun c o e => b8 c o (fun z => by rw [z, hdn] at e; cases e) (s57 _ _ e)
      have e8L := s58 _ _ e5
      have A8 := A5.mono s58
      have ll : ys.length = i + 1 := by rw [A5.length, List.length_map, List.length_range]
      have sp12 := span12_le D12
      refine ⟨_, rfl, .inl ⟨rfl, _, SqL.of e8L⟩, _, rfl, L, ys, 0, .ref dn, rfl, rfl, e8L, small1000 (by omega), by decide, by decide, ?_⟩
      refine ⟨?_, _, _, _, _, _, _, upd_same, ?_, rfl⟩
      · exact (b5.trans (But.of_same s58)).trans But.set
      · have A9 : LivAll (upd H8 L (.lst (ys.take (0 : Int).toNat ++ [.ref dn] ++ ys.drop (0 : Int).toNat))) ys ((List.range (i + 1)).map fun m => livR js rows2 (i - m)) := A8.but e8L But.set
        rw [← el] at f8
        have A10 : LivAll (upd H8 L (.lst (ys.take (0 : Int).toNat ++ [.ref dn] ++ ys.drop (0 : Int).toNat))) (.ref dn :: ys) (livR js rows2 (i + 1) :: (List.range (i + 1)).map fun m => livR js rows2 (i - m)) := .cons ⟨dn, rfl, by rw [upd_ne ndn]; exact f8⟩ A9
        have er : (List.range (i + 1 + 1)).map (fun m => livR js rows2 (i + 1 - m)) = livR js rows2 (i + 1) :: (List.range (i + 1)).map fun m => livR js rows2 (i - m) := by
          rw [List.range_succ_eq_map, List.map_cons, List.map_map]
          refine congrArg _ (List.map_congr_left fun m hm => ?_)
          show livR js rows2 (i + 1 - (m + 1)) = _
          rw [Nat.add_sub_add_right]
        rw [er]
        exact A10
  · rintro σ H5 ⟨b5, ys, v2, v5, v6, v7, v8, e5, A5, rfl⟩
    have toS : ∀ {Hn : Hp}, But L H4 Hn → Same H Hn := fun {Hn} bt x o e => bt x o (ne_of_none e hL0) (s04 x o e)
    have s05 := toS b5
    obtain ⟨d1, hd1, hd1'⟩ := A5.head (rows := livR js rows2 (spanN js)) (by rw [List.getElem?_map, List.getElem?_range (Nat.zero_lt_succ _)]; rfl)
    have ll : ys.length = spanN js + 1 := by rw [A5.length, List.length_map, List.length_range]
    have sp12 := span12_le D12
    refine ⟨_, rfl, L, ys, 0, .ref d1, rfl, rfl, SqL.of e5, atI_nat (j := 0) hd1, fun q0 hq0 => ⟨d1, q0, _, rfl, rfl, same_new hq0 _ _ hd1', upd_same, _, rfl, ?_⟩⟩
    have sq : Same H5 (upd H5 q0 (.dT [])) := same_new hq0
    revert sq
    generalize upd H5 q0 (.dT []) = H6
    intro sq
    have e6 := sq _ _ e5
    cases el0 : livR js rows2 (spanN js) with
    | cons r0' rs0 =>
      have eJ : livJ js rows2 = (List.range (spanN js + 1)).map fun m => livR js rows2 (spanN js - m) := by
        unfold livJ livT
        rw [if_neg (by rw [el0]; exact fun z => nomatch z)]
      exact iteT ⟨_, rfl, qq L ys rows2 H6 srt stb hL0 (s05.trans sq) e6 (by rw [eJ]; exact A5.mono sq)⟩
    | nil =>
      have eJ : livJ js rows2 = List.replicate (spanN js + 1) [] := by
        unfold livJ
        rw [if_pos el0]
      refine iteF ⟨_, rfl, L, rfl, ⟨_, SqL.of e6⟩, fun pl hpl => ?_⟩
      refine lc_list (K := K) (a := L) (xs := ys) (fun j Hm => Same H6 Hm ∧ ∃ us, Hm pl = some (.lst us) ∧ us.length = j ∧ LivAll (hid pl Hm) us (List.replicate j [])) ⟨same_new hpl, [], upd_same, rfl, .nil⟩ (fun _ _ _ z => SqL.of (z.1 _ _ e6)) ?_ ?_
      · rintro j y Hm hy ⟨sm, us, em, lu, Dm⟩
        have jl : j < ys.length := (List.getElem?_eq_some_iff.mp hy).1
        refine ⟨rfl, yesIf fun dd hdd => ?_⟩
        have s9 : Same Hm (upd Hm dd (.dT [])) := same_new hdd
        have ndd : dd ≠ pl := fun z => by rw [z, em] at hdd; cases hdd
        refine ⟨us, s9 _ _ em, small1000 (by omega), Same.app hpl (sm.trans s9), us ++ [.ref dd], upd_same, by rw [List.length_append, lu]; rfl, ?_⟩
        rw [List.replicate_succ']
        exact ((Dm.mono (hid_same (b := pl) s9)).mono hid_put).snoc ⟨dd, rfl, hid_put _ _ ((hid_ne ndd).trans upd_same)⟩
      rintro Hm ⟨sm, us, em, lu, Dm⟩
      have hp0 : H pl = none := by
        cases e : H pl with
        | none => rfl
        | some o => rw [sq _ _ (s05 _ _ e)] at hpl; cases hpl
      rw [ll] at Dm
      exact qq pl us rows2 Hm srt stb hp0 ((s05.trans sq).trans sm) em (by rw [eJ]; exact Dm.mono hid_sub)
end
end Ts
namespace Ts
open PySem PySem.Spec PyProof.Rows L2
section
variable {P : Program} {w : World} {K : PySem.W.Frag} {mg : Str → Option Value} {base : Heap}
theorem has_tablesJ (D : DefAt K mg "_law_tables" s__law_tables) (B : Blt mg) (h__law_span : Has P w K mg base 1 "_law_span" ["_law_lot_here"] (spSpanJ K)) (h__law_sets : Has P w K mg base 1 "_law_sets" ["_law_many", "_law_most"] (spSetsJ K)) (h__law_plus : Has P w K mg base 1 "_law_plus" ["_law_had", "_law_given"] (spPlusJ K)) (h__law_living : Has P w K mg base 3 "_law_living" ["_law_lot_here"] (spLivingJ K)) :
    Has P w K mg base 4 "_law_tables" ["_law_lot_here", "_law_most"] (spTablesJ K) := by
  refine D.has (fun _ _ _ _ _ _ us hl => match us, hl with | [_, _], _ => rfl) fun f fd F => F.ok sc__law_tables (fun vs H Q E h => ?_) (fun cdv A outer s H vs Q E hr h => ?_)
  · obtain ⟨p, q, n, most, js, rfl, _⟩ := h; rfl
  obtain ⟨p, qq, n, most, js, rfl, hP, hJ, G, D12, l0, l6, n1, m1, m2, q⟩ := h
  have hu : (A.deeper (envOfC "_law_tables" (defScope s__law_tables) s.heap.objs.size f cdv)).units + 1 < cLine := by have := hu64 hr; omega
  refine ⟨_, (pss_cons (ps_par (i := 2) (j := 3) (by rfl) sc__law_tables.nd rfl rfl (by decide) rfl rfl (pa_cons (pe_h h__law_living (hr.mono (by decide)) (pa_cons (pv 0) pa_nil)) (pa_cons (pe_h h__law_sets (hr.mono (by decide)) (pa_cons (pe_callB call_len_seq (by rfl) B.zlen (by decide +kernel) (pa_cons (pe_ix ix_tup (pv 0) pe_int (fun _ _ => rfl)) pa_nil)) (pa_cons (pe_ix ix_tup (pv 0) pe_int (fun _ _ => rfl)) pa_nil))) pa_nil)) (by rfl))
      (pss_cons (ps_set (i := 4) sc__law_tables.nd rfl (.inl rfl) (pe_callTy call_tuple_of (by rfl) B.ztuple (by decide +kernel) (pa_cons (pe_op op_rep (pe_lst (pa_cons pe_int pa_nil)) (pe_callB call_len_seq (by rfl) B.zlen (by decide +kernel) (pa_cons (pe_ix ix_tup (pv 0) pe_int (fun _ _ => rfl)) pa_nil))) pa_nil)))
      (C8.pss_cut (ps_set (i := 5) sc__law_tables.nd rfl (.inl rfl) (pe_ifExp (pt_cmp (pc_din hu (pv 4) (pe_ix ix_list (pv 2) pe_int (fun _ _ => rfl)))) (pe_lst (pa_cons (pe_tup (pa_cons (pe_tup pa_nil) (pa_cons (pv 4) pa_nil))) pa_nil)) (pe_lst pa_nil)))
      (pss_cons (ps_for PassesOwn.never rfl (pi_range1 (by rfl) B.zrange (pa_cons (pe_h h__law_span (hr.mono (by decide)) (pa_cons (pv 0) pa_nil)) pa_nil)) (pg_name (i := 6) sc__law_tables.nd rfl (.inl rfl)) (pss_cons (ps_set (i := 7) sc__law_tables.nd rfl (.inl rfl) (pe_lst pa_nil))
      (pss_cons (ps_for PassesOwn.never rfl (pi_list (pv 5)) (pg_tup rfl (pgs_cons (pg_name (i := 8) sc__law_tables.nd rfl (.inl rfl)) (pgs_cons (pg_name (i := 9) sc__law_tables.nd rfl (.inl rfl)) pgs_nil))) (pss_one (ps_for PassesOwn.never rfl (pi_list (pv 3)) (pg_name (i := 10) sc__law_tables.nd rfl (.inl rfl)) (pss_one (ps_if (PW.pt (pw_and (pt_cmp (pc_din hu (pe_h h__law_plus (hr.mono (by decide)) (pa_cons (pv 9) (pa_cons (pv 10) pa_nil))) (pe_ix ix_list (pv 2) (pe_op op_add (pv 6) pe_int) (fun _ _ => rfl)))) (pw_and1 (pt_cmpR op_lt (pe_callB call_len_seq (by rfl) B.zlen (by decide +kernel) (pa_cons (pv 7) pa_nil)) (pv 1) (nomark _))))) (pss_one (ps_expr (pe_bm PySem.F.plainAttrs_list PySem.F.slot_list_append PySem.F.type_list_append mt_append (pv 7) (pa_cons (pe_tup (pa_cons (pe_op op_catU (pv 8) (pe_tup (pa_cons (pv 10) pa_nil))) (pa_cons (pe_h h__law_plus (hr.mono (by decide)) (pa_cons (pv 9) (pa_cons (pv 10) pa_nil))) pa_nil))) pa_nil)))) pss_nil)))))
      (pss_one (ps_set (i := 5) sc__law_tables.nd rfl (.inl rfl) (pv 7))))))
      (pss_one (ps_ret (pe_lc (own := [("_law_rows", 8), ("_law_had", 9)]) rfl sc__law_tables.nd (pi_list (pv 5)) (blkOk_by (N := ["_law_lot_here", "_law_most", "_law_living_here", "_law_sets_here", "_law_zero", "_law_found", "_law_t", "_law_later", "_law_rows", "_law_had", "_law_s"]) (sc := defScope s__law_tables) (own := [("_law_rows", 8), ("_law_had", 9)]) (by decide +kernel)) (fun _ _ _ _ _ => (pg_tupK (K := K) (n := 2) rfl rfl (pgs_cons (pg_name (i := 8) sc__law_tables.nd rfl (.inl rfl) (.inr rfl)) (pgs_cons (pg_name (i := 9) sc__law_tables.nd rfl (.inl rfl) (.inr rfl)) pgs_nil)))) (fun _ _ _ _ _ => pts_nil) (fun _ _ _ _ _ => (pv 8))))))))), ?_⟩
  have sp0 := span_pos G
  have sp12 := span12_le D12
  obtain ⟨q2, xs, eq2, hS, hA⟩ := hJ.list
  cases eq2
  have lx : xs.length = js.length := by rw [hA.length, List.length_map]
  refine ⟨_, rfl, p, qq, n, js, rfl, hP, hJ, G, D12, l0, l6, n1, fun r ys sets H5 srt stb hr5 s5 e5 A5 => ?_⟩
  refine ⟨_, rfl, p, _, 1, .ref qq, rfl, rfl, sameT s5 hP, atI_nat (j := 1) rfl, qq, xs, rfl, .inl (s5.seq hS), _, rfl, p, _, 0, .int (n : Int), rfl, rfl, sameT s5 hP, atI_nat (j := 0) rfl, js.length, n, by rw [lx]; rfl, l6, by omega, fun S zs sets2 H6 srt2 stb2 hS6 s6 e6 D6 => ?_⟩
  have es : sets2 = sets := sorted_same srt2 srt (stb2.perm.nodup_iff.mpr (sets_nodup _ _)) (stb.perm.nodup_iff.mpr (sets_nodup _ _)) fun y => by rw [stb2.perm.mem_iff, stb.perm.mem_iff]
  subst es
  refine ⟨.ref r, .ref S, rfl, ?_⟩
  have hP6 := sameT (s5.trans s6) hP
  have hS6' := (s5.trans s6).seq hS
  refine ⟨by show 1 ≤ sizeLine; decide, fun l hl => ?_⟩
  have sl : Same H6 (upd H6 l (.lst [.int 0])) := same_new hl
  refine ⟨_, rfl, p, _, 1, .ref qq, rfl, rfl, sameT sl hP6, atI_nat (j := 1) rfl, qq, xs, rfl, .inl (sl.seq hS6'), l, (xs.length : Int), _, rfl, rfl, upd_same, by omega, by omega, ?_, fun p1 hp1 => ?_⟩
  · rw [Int.toNat_natCast]
    exact Nat.le_of_lt (small1000 (show 1 * xs.length ≤ 1000 by omega))
  refine ⟨p1, _, rfl, .inl ⟨SqL.of upd_same, fun pz hpz => ?_⟩⟩
  have s67 : Same H6 (upd (upd (upd H6 l (.lst [.int 0])) p1 (.lst (List.replicate ((xs.length : Int)).toNat [V.int 0]).flatten)) pz (.tup (List.replicate ((xs.length : Int)).toNat [V.int 0]).flatten)) := (sl.trans (same_new hp1)).trans (same_new hpz)
  have ez : (upd (upd (upd H6 l (.lst [.int 0])) p1 (.lst (List.replicate ((xs.length : Int)).toNat [V.int 0]).flatten)) pz (.tup (List.replicate ((xs.length : Int)).toNat [V.int 0]).flatten)) pz = some (.tup ((zeroR js).map V.int)) := by
    rw [upd_same, Int.toNat_natCast, List.flatten_replicate_singleton, lx, zeroR, List.map_replicate]
  revert s67 ez
  generalize upd (upd (upd H6 l (.lst [.int 0])) p1 (.lst (List.replicate ((xs.length : Int)).toNat [V.int 0]).flatten)) pz (.tup (List.replicate ((xs.length : Int)).toNat [V.int 0]).flatten) = H7
  intro s67 ez
  have s57 := s6.trans s67
  have s07 := s5.trans s57
  have e7 := s57 _ _ e5
  have A7 := A5.mono s57
  have e7S := s67 _ _ e6
  have D7 := D6.mono s67
  clear s57 s67 sl hl hp1 hpz lx D6 e6 s6 hS6 A5 e5 s5 hr5 hP6 hS6'
  have ly : ys.length = spanN js + 1 := by rw [A7.length, livJ_len]
  have lz : zs.length = sets2.length := by rw [D7.length, List.length_map]
  have lz64 : zs.length ≤ 64 := by
    rw [lz, stb.perm.length_eq]
    exact Nat.le_trans (List.length_filter_le _ _) (by rw [subsL_len]; exact Nat.pow_le_pow_right (n := 2) (by decide) l6)
  have lset : ∀ s' ∈ sets2, s'.length ≤ 6 := fun s' hs' => Nat.le_trans (subsL_each _ _ (List.mem_filter.mp (stb.perm.mem_iff.mp hs')).1) l6
  obtain ⟨d0, hd0, hd0'⟩ := A7.get (livJ_at (m := 0) (by omega))
  -- the first one
  refine ⟨fun σ' H' => Same H7 H' ∧ ∃ (fp : Addr) (vs : List V), H' fp = some (.lst vs) ∧ DpAll K H' vs ((begP (livJ js sets2) (zeroR js)).map partTD) ∧ σ' = [some (.ref p), some (.int (most : Int)), some (.ref r), some (.ref S), some (.ref pz), some (.ref fp), none, none, none, none, none], ?_, ?_⟩
  · refine ⟨_, rfl, _, rfl, r, ys, 0, .ref d0, rfl, rfl, SqL.of e7, atI_nat (j := 0) hd0, d0, _, rfl, DGet.t (k := keyR (zeroR js)) hd0' (by rw [keyR_V]; exact ez), _, rfl, ?_⟩
    rw [val_rows]
    unfold begP
    by_cases c : zeroR js ∈ (livJ js sets2).getD 0 []
    · rw [decide_eq_true c, if_pos c]
      refine iteT ⟨by show 0 ≤ sizeLine; decide, fun p0 hp0 => ⟨_, rfl, by show 2 ≤ sizeLine; decide, fun p2 hp2 => ⟨by show 1 ≤ sizeLine; decide, fun pl hpl => ?_⟩⟩⟩
      have s9 : Same H7 (upd H7 p0 (.tup [])) := same_new hp0
      have s10 : Same (upd H7 p0 (.tup [])) (upd (upd H7 p0 (.tup [])) p2 (.tup [.ref p0, .ref pz])) := same_new hp2
      have s11 : Same (upd (upd H7 p0 (.tup [])) p2 (.tup [.ref p0, .ref pz])) (upd (upd (upd H7 p0 (.tup [])) p2 (.tup [.ref p0, .ref pz])) pl (.lst [.ref p2])) := same_new hpl
      refine ⟨(s9.trans s10).trans s11, pl, [.ref p2], upd_same, .cons (.tup (SqT.of (s11 _ _ upd_same)) (.cons (.tup (SqT.of ((s10.trans s11) _ _ upd_same)) .nil) (.cons (.tup (SqT.of (((s9.trans s10).trans s11) _ _ ez)) (DpAll.ints _)) .nil))) .nil, rfl⟩
    · rw [decide_eq_false c, if_neg c]
      exact iteF ⟨by show 0 ≤ sizeLine; decide, fun pl hpl => ⟨same_new hpl, pl, [], upd_same, .nil, rfl⟩⟩
  rintro σ H8 ⟨s8, fp, vs, ef, Df, rfl⟩
  have s08 := s07.trans s8
  refine ⟨_, rfl, p, qq, n, js, rfl, sameT s08 hP, (Dp.lst hS hA).mono s08, G, D12, l6, fun H9 s9 => ⟨_, rfl, by omega, by omega, for_range (lo := 0) (n := ((spanN js : Int)).toNat) (fun t σ Hn => Same H7 Hn ∧ ∃ (fp : Addr) (vs : List V) (v6 v7 v8 v9 v10 : Option V), Hn fp = some (.lst vs) ∧ DpAll K Hn vs ((foundP (livJ js sets2) sets2 most (zeroR js) t).map partTD) ∧ σ = [some (.ref p), some (.int (most : Int)), some (.ref r), some (.ref S), some (.ref pz), some (.ref fp), v6, v7, v8, v9, v10]) ⟨s8.trans s9, fp, vs, _, _, _, _, _, s9 _ _ ef, Df.mono s9, rfl⟩ ?_ ?_⟩⟩
  · clear ef Df s8 s9 s08 hP hS hA hd0 hd0'
    rintro t σ H10 ht ⟨s10, fp, vs, v6, v7, v8, v9, v10, ef, Df, rfl⟩
    have ht : t < spanN js := by omega
    have z0 : (0 : Int) + (t : Int) = (t : Int) := by omega
    rw [z0]
    have z1 : (t : Int) + 1 = ((t + 1 : Nat) : Int) := by omega
    have efst : foundP (livJ js sets2) sets2 most (zeroR js) (t + 1) = ((foundP (livJ js sets2) sets2 most (zeroR js) t).flatMap (stepP (livJ js sets2) sets2 t)).take most := rfl
    rw [efst]
    have lfnd : ∀ e ∈ foundP (livJ js sets2) sets2 most (zeroR js) t, e.2.length = js.length ∧ e.1.length = t := fun e he => by
      rw [found_take m1 t (by omega)] at he
      obtain ⟨x1, x2⟩ := every_live t (by omega) e (List.mem_of_mem_take he)
      exact ⟨rows_each _ (liv_rows (by omega) x1), x2⟩
    generalize foundP (livJ js sets2) sets2 most (zeroR js) t = found at Df lfnd ⊢
    obtain ⟨d1, hd1, hd1'⟩ := A7.get (livJ_at (m := t + 1) (by omega))
    have hd1' := s10 _ _ hd1'
    have e10 := s10 _ _ e7
    have e10S := s10 _ _ e7S
    have D10 := D7.mono s10
    have lv : vs.length = found.length := by rw [Df.length, List.length_map]
    refine ⟨by show 0 ≤ sizeLine; decide, fun lp hlp => ?_⟩
    have s11 : Same H10 (upd H10 lp (.lst [])) := same_new hlp
    have e11 : (upd H10 lp (.lst [])) lp = some (.lst []) := upd_same
    revert s11 e11
    generalize upd H10 lp (.lst []) = H11
    intro s11 e11
    have toS : ∀ {Hn : Hp}, But lp H11 Hn → Same H10 Hn := fun {Hn} bt x o e => bt x o (ne_of_none e hlp) (s11 x o e)
    refine ⟨_, rfl, fp, rfl, ⟨_, SqL.of (s11 _ _ ef)⟩, for_list (K := K) (a := fp) (xs := vs) (fun i σ Hm => But lp H11 Hm ∧ ∃ (us : List V) (v8 v9 v10 : Option V), Hm lp = some (.lst us) ∧ DpAll K (hid lp Hm) us ((((found.take i).flatMap (stepP (livJ js sets2) sets2 t)).take most).map partTD) ∧ σ = [some (.ref p), some (.int (most : Int)), some (.ref r), some (.ref S), some (.ref pz), some (.ref fp), some (.int (t : Int)), some (.ref lp), v8, v9, v10]) ⟨But.refl, [], _, _, _, e11, by rw [List.take_zero, List.flatMap_nil, List.take_nil]; exact .nil, rfl⟩ (fun _ _ _ _ z => SqL.of (toS z.1 _ _ ef)) ?_ ?_⟩
    · rintro i v σ H12 hv ⟨b12, us, v8, v9, v10, e12, D12', rfl⟩
      obtain ⟨d, hd, hv'⟩ := Df.get hv
      rw [List.getElem?_map] at hd
      obtain ⟨e, he, rfl⟩ : ∃ e, found[i]? = some e ∧ partTD e = d := by
        cases e0 : found[i]? with
        | none => rw [e0] at hd; cases hd
        | some e => rw [e0] at hd; exact ⟨e, rfl, Option.some.inj hd⟩
      obtain ⟨le2, le1⟩ := lfnd e (List.mem_of_getElem? he)
      obtain ⟨a, ws, rfl, hT, hX⟩ := hv'.tuple
      obtain ⟨w1, w2, rfl, hw1, hw2⟩ := dpa_two hX
      obtain ⟨ra, rs, rfl, hra, hrs⟩ := hw1.tuple
      obtain ⟨ha, hs, rfl, hha, hhs⟩ := hw2.tuple
      rw [dpa_int_eq hhs] at hha
      have s12 := toS b12
      refine ⟨a, _, rfl, sameT s12 hT, rfl, _, _, rfl, _, _, rfl, rfl, ?_⟩
      have etk : found.take (i + 1) = found.take i ++ [e] := by rw [List.take_add_one, he]; rfl
      rw [etk, List.flatMap_append, List.flatMap_cons, List.flatMap_nil, List.append_nil]
      generalize (found.take i).flatMap (stepP (livJ js sets2) sets2 t) = X at D12' ⊢
      have est : stepP (livJ js sets2) sets2 t e = ((sets2.filter (goOn (livJ js sets2) t e)).map (onP e)) := rfl
      rw [est]
      refine ⟨_, rfl, S, rfl, ⟨_, SqL.of (s12 _ _ e10S)⟩, for_list (K := K) (a := S) (xs := zs) (fun j σ Hm => But lp H11 Hm ∧ ∃ (us : List V) (v10 : Option V), Hm lp = some (.lst us) ∧ DpAll K (hid lp Hm) us (((X ++ ((sets2.take j).filter (goOn (livJ js sets2) t e)).map (onP e)).take most).map partTD) ∧ σ = [some (.ref p), some (.int (most : Int)), some (.ref r), some (.ref S), some (.ref pz), some (.ref fp), some (.int (t : Int)), some (.ref lp), some (.ref ra), some (.ref ha), v10]) ⟨b12, us, _, e12, by rw [List.take_zero, List.filter_nil, List.map_nil, List.append_nil]; exact D12', rfl⟩ (fun _ _ _ _ z => SqL.of (toS z.1 _ _ e10S)) ?_ ?_⟩
      · clear D12' e12 b12 s12
        rintro j y σ H13 hy ⟨b13, us, v10, e13, D13, rfl⟩
        have s13 := toS b13
        obtain ⟨d, hd, hv⟩ := D10.get hy
        rw [List.getElem?_map] at hd
        obtain ⟨s', hs1, rfl⟩ : ∃ s', sets2[j]? = some s' ∧ rowD s' = d := by
          cases e0 : sets2[j]? with
          | none => rw [e0] at hd; cases hd
          | some s' => rw [e0] at hd; exact ⟨s', rfl, Option.some.inj hd⟩
        obtain ⟨g, xs', rfl, hT', hX'⟩ := hv.tuple
        rw [dpa_int_eq hX'] at hT'
        have hT13 := sameT s13 hT'
        have hh13 := sameT s13 hha
        have ls6 := lset s' (List.mem_of_getElem? hs1)
        have esj : sets2.take (j + 1) = sets2.take j ++ [s'] := by rw [List.take_add_one, hs1]; rfl
        rw [esj, List.filter_append]
        generalize (sets2.take j).filter (goOn (livJ js sets2) t e) = Y at D13 ⊢
        have lus : us.length = ((X ++ Y.map (onP e)).take most).length := by rw [D13.length, List.length_map]
        refine ⟨_, rfl, _, rfl, ha, g, e.2, s', rfl, hh13, hT13, by omega, fun pp Hq hpp sq epp => ?_⟩
        have b14 := b13.trans (But.of_same sq)
        have s14 := toS b14
        have e14 := sq _ _ e13
        have D14 := D13.mono (hid_same (b := lp) sq)
        refine ⟨_, rfl, _, rfl, _, _, rfl, rfl, r, ys, ((t + 1 : Nat) : Int), .ref d1, rfl, by show V.int ((t : Int) + 1) = _; rw [z1], SqL.of (s14 _ _ e10), atI_nat (j := t + 1) hd1, d1, _, rfl, DGet.t (k := keyR (plusR e.2 s')) (s14 _ _ hd1') (by rw [keyR_V]; exact epp), _, rfl, ?_⟩
        rw [val_rows]
        have ego : goOn (livJ js sets2) t e s' = decide (plusR e.2 s' ∈ (livJ js sets2).getD (t + 1) []) := rfl
        cases nb : decide (plusR e.2 s' ∈ (livJ js sets2).getD (t + 1) []) with
        | false =>
          refine iteF (iteF ⟨b14, us, _, e14, ?_, rfl⟩)
          rw [show [s'].filter (goOn (livJ js sets2) t e) = [] by rw [List.filter_cons, ego, nb]; rfl, List.append_nil]
          exact D14
        | true =>
          rw [show [s'].filter (goOn (livJ js sets2) t e) = [s'] by rw [List.filter_cons, ego, nb]; rfl, List.map_append]
          rw [show X ++ (Y.map (onP e) ++ [s'].map (onP e)) = (X ++ Y.map (onP e)) ++ [onP e s'] by rw [List.append_assoc]; rfl, take_snoc]
          rw [List.length_take] at lus
          refine iteT ?_
          refine ⟨_, rfl, lp, us, rfl, .inl (SqL.of e14), _, rfl, _, _, rfl, rfl, _, rfl, ?_⟩
          by_cases cl : (X ++ Y.map (onP e)).length < most
          · rw [if_pos cl, decide_eq_true (show (us.length : Int) < (most : Int) by omega)]
            refine iteT ?_
            refine ⟨_, rfl, .inl ⟨rfl, _, SqL.of e14⟩, ?_⟩
            have lrs : rs.length = t := by rw [hrs.length, List.length_map, le1]
            refine ⟨_, rfl, _, rfl, by show 1 ≤ sizeLine; decide, fun q1 hq1 => ⟨ra, q1, rs, [.ref g], rfl, rfl, sameT (s14.trans (same_new hq1)) hra, SqT.of upd_same, ?_, fun p2 H15 s15 c15 S15 => ?_⟩⟩
            · exact Nat.le_of_lt (small1000 (show rs.length + 1 ≤ 1000 by omega))
            have s1415 : Same Hq H15 := (same_new (o := .tup [.ref g]) hq1).trans s15
            refine ⟨_, rfl, _, rfl, ha, g, e.2, s', rfl, sameT (sq.trans s1415) hh13, sameT (sq.trans s1415) hT13, by omega, fun pp2 H16 hpp2 s16 e16 => ⟨by show 2 ≤ sizeLine; decide, fun tp htp => ?_⟩⟩
            have s17 : Same H16 (upd H16 tp (.tup [.ref p2, .ref pp2])) := same_new htp
            have e17t : (upd H16 tp (.tup [.ref p2, .ref pp2])) tp = some (.tup [.ref p2, .ref pp2]) := upd_same
            have S17 := sameT (s16.trans s17) S15
            have e17p := s17 _ _ e16
            have s1417 : Same Hq (upd H16 tp (.tup [.ref p2, .ref pp2])) := (s1415.trans s16).trans s17
            revert e17t S17 e17p s1417
            generalize upd H16 tp (.tup [.ref p2, .ref pp2]) = H17
            intro e17t S17 e17p s1417
            have b17 := b14.trans (But.of_same s1417)
            have e17 := s1417 _ _ e14
            have D17 := D14.mono (hid_same (b := lp) s1417)
            have Dn : Dp K H17 (.ref tp) (partTD (onP e s')) := by
              refine .tup (SqT.of e17t) (.cons (.tup S17 ?_) (.cons (.tup (SqT.of e17p) (DpAll.ints _)) .nil))
              show DpAll K H17 (rs ++ [.ref g]) ((e.1 ++ [s']).map rowD)
              rw [List.map_append]
              exact (hrs.mono (toS b17)).append (.cons (.tup (sameT (toS b17) hT') (DpAll.ints _)) .nil)
            refine ⟨lp, us, .ref tp, rfl, rfl, e17, small1000 (by omega), ?_⟩
            refine ⟨b17.trans But.set, us ++ [.ref tp], _, upd_same, ?_, rfl⟩
            rw [List.map_append]
            exact (D17.snoc (dp_hideT e17 (tupD_part _) _ Dn)).mono hid_put
          · rw [if_neg cl, decide_eq_false (show ¬ (us.length : Int) < (most : Int) by omega)]
            exact iteF ⟨b14, us, _, e14, D14, rfl⟩
      · rintro σ H13 ⟨b13, us, v10, e13, D13, rfl⟩
        rw [lz, List.take_length] at D13
        exact ⟨b13, us, _, _, _, e13, D13, rfl⟩
    · rintro σ H12 ⟨b12, us, v8, v9, v10, e12, D12', rfl⟩
      rw [lv, List.take_length] at D12'
      exact ⟨_, rfl, s10.trans (toS b12), lp, us, _, _, _, _, _, e12, D12'.mono hid_sub, rfl⟩
  · rintro σ H10 ⟨s10, fp, vs, v6, v7, v8, v9, v10, ef, Df, rfl⟩
    rw [Int.toNat_natCast] at Df
    have ll : (foundP (livJ js sets2) sets2 most (zeroR js) (spanN js)).length ≤ 1000 := by
      rw [found_take m1 _ (Nat.le_refl _), List.length_take]; omega
    have et : (foundP (livJ js sets2) sets2 most (zeroR js) (spanN js)).map (·.1) = tablesJ js sets2 most := rfl
    generalize foundP (livJ js sets2) sets2 most (zeroR js) (spanN js) = found at Df ll et
    have lv : vs.length = found.length := by rw [Df.length, List.length_map]
    refine ⟨_, rfl, fp, rfl, ⟨_, SqL.of ef⟩, fun pl hpl => ?_⟩
    refine lc_list (K := K) (a := fp) (xs := vs) (fun j Hm => Same H10 Hm ∧ ∃ us, Hm pl = some (.lst us) ∧ us.length = j ∧ DpAll K (hid pl Hm) us (((found.take j).map (·.1)).map tabD)) ⟨same_new hpl, [], upd_same, rfl, by rw [List.take_zero]; exact .nil⟩ (fun _ _ _ z => SqL.of (z.1 _ _ ef)) ?_ ?_
    · rintro j v Hm hv ⟨sm, us, em, lu, Dm⟩
      obtain ⟨d, hd, hv'⟩ := Df.get hv
      rw [List.getElem?_map] at hd
      obtain ⟨e, he, rfl⟩ : ∃ e, found[j]? = some e ∧ partTD e = d := by
        cases e0 : found[j]? with
        | none => rw [e0] at hd; cases hd
        | some e => rw [e0] at hd; exact ⟨e, rfl, Option.some.inj hd⟩
      have jl : j < vs.length := (List.getElem?_eq_some_iff.mp hv).1
      obtain ⟨a, ws, rfl, hT, hX⟩ := hv'.tuple
      obtain ⟨w1, w2, rfl, hw1, hw2⟩ := dpa_two hX
      refine ⟨a, _, rfl, sameT sm hT, rfl, _, _, rfl, _, _, rfl, rfl, rfl, _, rfl, us, em, small1000 (by omega), Same.app hpl sm, us ++ [w1], upd_same, by rw [List.length_append, lu]; rfl, ?_⟩
      rw [show found.take (j + 1) = found.take j ++ [e] by rw [List.take_add_one, he]; rfl, List.map_append, List.map_append]
      exact (Dm.snoc (dp_hideT em (tupD_tab _) _ (hw1.mono sm))).mono hid_put
    rintro Hm ⟨sm, us, em, lu, Dm⟩
    rw [lv, List.take_length, et] at Dm
    have h0 : H pl = none := by
      cases e : H pl with
      | none => rfl
      | some o => rw [s10 _ _ (s07 _ _ e)] at hpl; cases hpl
    exact q pl us sets2 Hm srt stb h0 ((s07.trans s10).trans sm) em (Dm.mono hid_sub)
end
end Ts
namespace Ts
open PySem PySem.Spec PyProof.Rows L2
section
variable {P : Program} {w : World} {K : PySem.W.Frag} {mg : Str → Option Value} {base : Heap}
theorem has_keptJ (D : DefAt K mg "_law_kept" s__law_kept) (B : Blt0 mg) (h__law_near : Has P w K mg base 1 "_law_near" ["_law_share_here", "_law_many", "_law_t"] (spNearJ K)) : Has P w K mg base 2 "_law_kept" ["_law_lot_here", "_law_had", "_law_t"] (spKeptJ K) := by
  refine D.has (fun _ _ _ _ _ _ us hl => match us, hl with | [_, _, _], _ => rfl) fun f fd F => F.ok sc__law_kept (fun vs H Q E h => ?_) (fun cdv A outer s H vs Q E hr h => ?_)
  · obtain ⟨p, q, h, n, js, r, t, rfl, _⟩ := h; rfl
  obtain ⟨p, qq, ph, n, js, r, t, rfl, hP, hJ, hR, G, l6, lr, q⟩ := h
  refine ⟨_, (pss_one (ps_ret (pe_cmpR (op_eqD (hu64 hr)) (pe_lc (own := [("_law_k", 3)]) rfl sc__law_kept.nd (pi_range1 (by rfl) B.zrange (pa_cons (pe_callB call_len_seq (by rfl) B.zlen (by decide +kernel) (pa_cons (pv 1) pa_nil)) pa_nil)) (blkOk_by (N := ["_law_lot_here", "_law_had", "_law_t", "_law_k"]) (sc := defScope s__law_kept) (own := [("_law_k", 3)]) (by decide +kernel)) (fun _ _ _ _ _ => (pg_name (i := 3) sc__law_kept.nd rfl (.inl rfl) (.inr rfl))) (fun _ _ _ _ _ => (pts_one (pt_not (pt_val (pe_h h__law_near (hr.mono (by decide)) (pa_cons (pe_ix (ixT (K := K) rfl) (pe_ix (ixL (K := K) rfl) (pe_ix (ixT (K := K) rfl) (pv 0) pe_int (fun _ _ => rfl)) (pv 3) (fun _ _ => rfl)) pe_int (fun _ _ => rfl)) (pa_cons (pe_ix (ixT (K := K) rfl) (pv 1) (pv 3) (fun _ _ => rfl)) (pa_cons (pv 2) pa_nil)))))))) (fun _ _ _ _ _ => (pv 3))) (pe_lst pa_nil) (nomark _)))), ?_⟩
  obtain ⟨q2, xs, eq2, hS, hA⟩ := hJ.list
  cases eq2
  have lx : xs.length = js.length := by rw [hA.length, List.length_map]
  have en : ((List.map V.int r).length : Int).toNat = js.length := by rw [List.length_map]; omega
  have lz : (js.zip r).length = js.length := by rw [List.length_zip]; omega
  refine ⟨_, rfl, ph, _, rfl, .inr hR, _, rfl, by rw [List.length_map]; omega, by rw [List.length_map]; omega, fun pl hpl => ?_⟩
  rw [en]
  refine lc_range (lo := 0) (n := js.length) (fun i Hm => Same H Hm ∧ Hm pl = some (.lst (natV (posL (fun q : Job × Int => !nearB q.1.2.1 q.1.2.2 q.2 t) ((js.zip r).take i) 0)))) ⟨same_new hpl, by rw [List.take_zero]; exact upd_same⟩ ?_ ?_
  · rintro i Hm hi ⟨sm, em⟩
    have ei : (0 : Int) + (i : Int) = (i : Int) := by omega
    rw [ei]
    obtain ⟨x, hx⟩ : ∃ x, xs[i]? = some x := ⟨xs[i]'(by omega), List.getElem?_eq_getElem (by omega)⟩
    obtain ⟨y, hy⟩ : ∃ y, r[i]? = some y := ⟨r[i]'(by omega), List.getElem?_eq_getElem (by omega)⟩
    obtain ⟨j, a, q2, hj, rfl, ha, hq⟩ := job_at (hA.mono sm) hx
    have gp := G.part j (List.mem_of_getElem? hj)
    have ez : (js.zip r)[i]? = some (j, y) := by rw [List.getElem?_zip_eq_some]; exact ⟨hj, hy⟩
    refine ⟨rfl, _, rfl, p, _, 1, .ref qq, rfl, rfl, sameT sm hP, atI_nat (j := 1) rfl, _, rfl, qq, xs, (i : Int), .ref a, rfl, rfl, sm.seq hS, atI_nat hx, a, _, 1, .ref q2, rfl, rfl, ha, atI_nat (j := 1) rfl, _, rfl, _, rfl, ph, _, (i : Int), .int y, rfl, rfl, sameT sm hR, atI_nat (by rw [List.getElem?_map, hy]; rfl), _, rfl, .ref q2, j.2.1, j.2.2, y, t, rfl, .tup hq (.cons (.int _) (.cons (.int _) .nil)), gp, _, rfl, ?_⟩
    have e9 := posL_snoc (fun q : Job × Int => !nearB q.1.2.1 q.1.2.2 q.2 t) ((js.zip r).take i) 0 (j, y)
    have e8 : (js.zip r).take (i + 1) = (js.zip r).take i ++ [(j, y)] := by rw [List.take_add_one, ez]; rfl
    rw [e8, e9]
    rw [List.length_take, lz, Nat.zero_add, Nat.min_eq_left (by omega : i ≤ js.length)]
    cases nearB j.2.1 j.2.2 y t with
    | true => exact iteF ⟨sm, by rw [em]; show _ = some (HO.lst (natV (_ ++ []))); rw [List.append_nil]⟩
    | false =>
      refine iteT ⟨_, rfl, _, em, ?_, Same.app hpl sm, ?_⟩
      · rw [natV, List.length_map]
        have := posL_len (fun q : Job × Int => !nearB q.1.2.1 q.1.2.2 q.2 t) ((js.zip r).take i) 0
        rw [List.length_take] at this
        exact small1000 (by omega)
      · rw [upd_same, natV, natV, List.map_append]; rfl
  rintro Hm ⟨sm, em⟩
  rw [← lz, List.take_length] at em
  refine ⟨by show 0 ≤ sizeLine; decide, fun l0 hl0 => ?_⟩
  have s5 : Same Hm (upd Hm l0 (.lst [])) := same_new hl0
  refine ⟨_, _, .lst (SqL.of (s5 _ _ em)) (by rw [show ∀ l : List Nat, natV l = (l.map fun k : Nat => (k : Int)).map V.int from fun l => by rw [natV, List.map_map]; rfl]; exact DpAll.ints _), .lst (SqL.of upd_same) .nil, shaped_intL _, shaped_nil, ?_⟩
  rw [eqv_intL, List.isEmpty_map]
  exact q _ (sm.trans s5)
end
end Ts
namespace Ts
open PySem PySem.Spec PyProof.Rows L2
section
variable {P : Program} {w : World} {K : PySem.W.Frag} {mg : Str → Option Value} {base : Heap}
theorem has_is_right29 (D : DefAt K mg "_law_is_right" s__law_is_right) (B : Blt0 mg) (h__law_span : Has P w K mg base 1 "_law_span" ["_law_lot_here"] (spSpanJ K)) (h__law_sets : Has P w K mg base 1 "_law_sets" ["_law_many", "_law_most"] (spSetsJ K)) (h__law_plus : Has P w K mg base 1 "_law_plus" ["_law_had", "_law_given"] (spPlusJ K)) (h__law_kept : Has P w K mg base 2 "_law_kept" ["_law_lot_here", "_law_had", "_law_t"] (spKeptJ K)) :
    HasG P w K mg base 4 "_law_is_right" ["_law_lot_here", "_law_rows"] (spRightT29 K) := by
  refine D.hasG (fun _ _ _ _ _ _ us hl => match us, hl with | [_, _], _ => rfl) fun f fd F => fun_g F sc__law_is_right (fun vs H Q E h => ?_) (fun cdv A outer s H vs Q hg0 hr h => ?_)
  · obtain ⟨p, q, n, js, v, d, rfl, _⟩ := h; rfl
  obtain ⟨p, qq, n, js, v, d, rfl, hP, hJ, hv, hB, G, D12, l0, l3, n6, q⟩ := h
  have hg : (A.deeper (envOfC "_law_is_right" (defScope s__law_is_right) s.heap.objs.size f cdv)).guards = some [] := hg0
  have E := E0
  refine ⟨_, (pss_cons (ps_if (PW.pt (pw_or (pt_not (pt_val (pe_callB call_isi (by rfl) B.zisinstance (by decide +kernel) (pa_cons (pv 1) (pa_cons (pe_ty "tuple" B.ztuple) pa_nil))))) (pw_or1 (pt_cmpR op_ne (pe_callB call_len_seq (by rfl) B.zlen (by decide +kernel) (pa_cons (pv 1) pa_nil)) (pe_h h__law_span (hr.mono (by decide)) (pa_cons (pv 0) pa_nil)) (nomark _))))) (pss_one (ps_ret pe_bl)) pss_nil)
      (pss_cons (ps_par (i := 2) (j := 3) (by rfl) sc__law_is_right.nd rfl rfl (by decide) rfl rfl (pa_cons (pe_callTy call_tuple_of (by rfl) B.ztuple (by decide +kernel) (pa_cons (pe_op op_rep (pe_lst (pa_cons pe_int pa_nil)) (pe_callB call_len_seq (by rfl) B.zlen (by decide +kernel) (pa_cons (pe_ix ix_tup (pv 0) pe_int (fun _ _ => rfl)) pa_nil))) pa_nil)) (pa_cons (pe_h h__law_sets (hr.mono (by decide)) (pa_cons (pe_callB call_len_seq (by rfl) B.zlen (by decide +kernel) (pa_cons (pe_ix ix_tup (pv 0) pe_int (fun _ _ => rfl)) pa_nil)) (pa_cons (pe_ix ix_tup (pv 0) pe_int (fun _ _ => rfl)) pa_nil))) pa_nil)) (by rfl))
      (pss_cons (ps_for PassesOwn.never rfl (pi_range1 (by rfl) B.zrange (pa_cons (pe_callB call_len_seq (by rfl) B.zlen (by decide +kernel) (pa_cons (pv 1) pa_nil)) pa_nil)) (pg_name (i := 4) sc__law_is_right.nd rfl (.inl rfl)) (pss_cons (ps_if (PW.pt (pw_or (pt_cmpR (notInDK (K := K) rfl (hu65 hr)) (pe_ix ix_tup (pv 1) (pv 4) (fun _ _ => rfl)) (pv 3) (by rfl)) (pw_or1 (pt_cmpR op_notIn_seq (pe_callB (reprVK (K := K) rfl hg (hu100 hr)) (by rfl) B.zrepr (by decide +kernel) (pa_cons (pe_ix ix_tup (pv 1) (pv 4) (fun _ _ => rfl)) pa_nil)) (pe_lc (own := [("_law_s", 5)]) rfl sc__law_is_right.nd (pi_list (pv 3)) (blkOk_by (N := ["_law_lot_here", "_law_rows", "_law_had", "_law_sets_here", "_law_t", "_law_s"]) (sc := defScope s__law_is_right) (own := [("_law_s", 5)]) (by decide +kernel)) (fun _ _ _ _ _ => (pg_name (i := 5) sc__law_is_right.nd rfl (.inl rfl) (.inr rfl))) (fun _ _ _ _ _ => pts_nil) (fun _ _ _ _ _ => (pe_callB (reprVK (K := K) rfl hg (hu100 hr)) (by rfl) B.zrepr (by decide +kernel) (pa_cons (pv 5) pa_nil)))) (by rfl))))) (pss_one (ps_ret pe_bl)) pss_nil)
      (pss_cons (ps_set (i := 2) sc__law_is_right.nd rfl (.inl rfl) (pe_h h__law_plus (hr.mono (by decide)) (pa_cons (pv 2) (pa_cons (pe_ix ix_tup (pv 1) (pv 4) (fun _ _ => rfl)) pa_nil))))
      (pss_one (ps_if (pt_not (pt_val (pe_h h__law_kept (hr.mono (by decide)) (pa_cons (pv 0) (pa_cons (pv 2) (pa_cons (pe_op op_add (pv 4) pe_int) pa_nil)))))) (pss_one (ps_ret pe_bl)) pss_nil)))))
      (pss_one (ps_ret pe_bl))))), ?_⟩
  have l6 : js.length ≤ 6 := by omega
  have sp0 := span_pos G
  have sp12 := span12_le D12
  rcases hB with ⟨ds, rfl, l30, hds⟩ | hno
  case inr =>
    have tt : tyN (some d) ≠ "tuple" := fun z => by
      obtain ⟨ds, e⟩ := tyN_tup z
      exact hno ds (Option.some.inj e)
    have e0 : tabO d = none := by
      unfold tabO
      split
      · rename_i ds; exact absurd rfl (hno ds)
      · rfl
    refine ⟨_, rfl, _, _, _, _, _, rfl, .ty "tuple", (show AnyV K H v (some d) from hv).ty, no_tup tt, false, rfl, iteT (iteT ?_)⟩
    have := q H fun _ _ z => z
    rw [e0] at this
    exact this
  obtain ⟨pt, us, rfl, hT, hA9⟩ := hv.tuple
  have lu : us.length = ds.length := hA9.length
  obtain ⟨q2, xs, eq2, hS, hA⟩ := hJ.list
  cases eq2
  have lx : xs.length = js.length := by rw [hA.length, List.length_map]
  refine ⟨_, rfl, _, _, _, _, _, rfl, .ty "tuple", sqt_ty37 hT, kit_ty (r := true) (by decide +kernel), true, rfl, iteF ?_⟩
  refine ⟨_, rfl, pt, us, rfl, .inr hT, _, rfl, p, qq, n, js, rfl, hP, hJ, G, D12, l6, fun H1 s1 => ?_⟩
  refine ⟨rfl, _, rfl, ?_⟩
  have kb : keepsB js (List.replicate (spanN js) (n : Int)) (tabO (.tuple ds)) = (decide (ds.length = spanN js) && keepsGo js (List.replicate (spanN js) (n : Int)) (ds.map tickO) 0 (List.replicate js.length 0)) := by
    show (decide ((ds.map tickO).length = (List.replicate (spanN js) (n : Int)).length) && _) = _
    rw [List.length_map, List.length_replicate]
  rw [kb] at q
  by_cases ln : ds.length = spanN js
  case neg =>
    have e0 : (!decide (V.int ((us.length : Nat) : Int) = V.int ((spanN js : Nat) : Int))) = true := by
      rw [decide_eq_false fun z => ln (by have := V.int.inj z; omega)]; rfl
    rw [e0]
    refine iteT ?_
    rw [decide_eq_false ln, Bool.false_and] at q
    exact q H1 s1
  rw [decide_eq_true ln, Bool.true_and] at q
  have e0 : (!decide (V.int ((us.length : Nat) : Int) = V.int ((spanN js : Nat) : Int))) = false := by rw [lu, ln, decide_eq_true rfl]; rfl
  rw [e0]
  refine iteF ?_
  have hP1 := sameT s1 hP
  have hS1 := s1.seq hS
  refine ⟨by show 1 ≤ sizeLine; decide, fun l hl => ?_⟩
  have sl : Same H1 (upd H1 l (.lst [.int 0])) := same_new hl
  refine ⟨_, rfl, p, _, 1, .ref qq, rfl, rfl, sameT sl hP1, atI_nat (j := 1) rfl, qq, xs, rfl, .inl (sl.seq hS1), l, (xs.length : Int), _, rfl, rfl, upd_same, by omega, by omega, ?_, fun p1 hp1 => ?_⟩
  · rw [Int.toNat_natCast]
    exact Nat.le_of_lt (small1000 (show 1 * xs.length ≤ 1000 by omega))
  refine ⟨p1, _, rfl, .inl ⟨SqL.of upd_same, fun pz hpz => ?_⟩⟩
  have s67 : Same H1 (upd (upd (upd H1 l (.lst [.int 0])) p1 (.lst (List.replicate ((xs.length : Int)).toNat [V.int 0]).flatten)) pz (.tup (List.replicate ((xs.length : Int)).toNat [V.int 0]).flatten)) := (sl.trans (same_new hp1)).trans (same_new hpz)
  have ez : (upd (upd (upd H1 l (.lst [.int 0])) p1 (.lst (List.replicate ((xs.length : Int)).toNat [V.int 0]).flatten)) pz (.tup (List.replicate ((xs.length : Int)).toNat [V.int 0]).flatten)) pz = some (.tup ((List.replicate js.length (0 : Int)).map V.int)) := by
    rw [upd_same, Int.toNat_natCast, List.flatten_replicate_singleton, lx, List.map_replicate]
  revert s67 ez
  generalize upd (upd (upd H1 l (.lst [.int 0])) p1 (.lst (List.replicate ((xs.length : Int)).toNat [V.int 0]).flatten)) pz (.tup (List.replicate ((xs.length : Int)).toNat [V.int 0]).flatten) = H7
  intro s67 ez
  have hP7 := sameT s67 hP1
  have hS7 := s67.seq hS1
  have s07 := s1.trans s67
  clear sl hl hp1 hpz
  refine ⟨_, rfl, p, _, 1, .ref qq, rfl, rfl, hP7, atI_nat (j := 1) rfl, qq, xs, rfl, .inl hS7, _, rfl, p, _, 0, .int (n : Int), rfl, rfl, hP7, atI_nat (j := 0) rfl, js.length, n, by rw [lx]; rfl, l6, by omega, fun S zs sets H8 srt stb hS8 s8 e8 D8 => ?_⟩
  refine ⟨.ref pz, .ref S, rfl, ?_⟩
  have s08 := s07.trans s8
  have hP8 := sameT s8 hP7
  have hJ8 : Dp K H8 (.ref qq) (jobsD js) := (Dp.lst hS hA).mono s08
  have hT8 := sameT s08 hT
  have A8 := hA9.mono s08
  have ez8 := s8 _ _ ez
  have lz : zs.length = sets.length := by rw [D8.length, List.length_map]
  have lz64 : zs.length ≤ 64 := by
    rw [lz, stb.perm.length_eq]
    exact Nat.le_trans (List.length_filter_le _ _) (by rw [subsL_len]; exact Nat.pow_le_pow_right (n := 2) (by decide) l6)
  have mem : ∀ s, s ∈ sets ↔ s ∈ setsL js.length n := fun s => stb.perm.mem_iff
  clear s67 s07 ez hP7 hS7 hP1 hS1 s8 hS8
  generalize eR : keepsGo js (List.replicate (spanN js) (n : Int)) (ds.map tickO) 0 (List.replicate js.length 0) = R at q
  refine ⟨_, rfl, pt, us, rfl, .inr hT8, _, rfl, by omega, by omega, for_range (lo := 0) (n := ((us.length : Nat) : Int).toNat) (fun i σ Hn => Same H8 Hn ∧ ∃ (ph : Addr) (had : List Int) (v4 v5 : Option V), Hn ph = some (.tup (had.map V.int)) ∧ had.length = js.length ∧ keepsGo js (List.replicate (spanN js) (n : Int)) ((ds.drop i).map tickO) i had = R ∧ σ = [some (.ref p), some (.ref pt), some (.ref ph), some (.ref S), v4, v5]) ⟨fun _ _ z => z, pz, _, _, _, ez8, List.length_replicate, eR, rfl⟩ ?_ ?_⟩
  · rintro i σ H9 hi ⟨s9, ph, had, v4, v5, eh, lh, hR, rfl⟩
    have hi' : i < us.length := by omega
    obtain ⟨u, hu⟩ : ∃ u, us[i]? = some u := ⟨us[i], List.getElem?_eq_getElem hi'⟩
    obtain ⟨d, hd, hud8⟩ := A8.get hu
    have hud := hud8.mono s9
    have hlt : i < ds.length := by omega
    have ed : ds.drop i = d :: ds.drop (i + 1) := by
      rw [List.drop_eq_getElem_cons hlt]
      rw [List.getElem?_eq_getElem hlt] at hd
      rw [Option.some.inj hd]
    have ok := hds d (List.mem_of_getElem? hd)
    rw [ed] at hR
    have ec : (List.replicate (spanN js) (n : Int)).getD i 0 = (n : Int) := by
      rw [List.getD_eq_getElem?_getD, List.getElem?_replicate, if_pos (by omega)]; rfl
    have hR : (membersB (js.length : Int) ((List.replicate (spanN js) (n : Int)).getD i 0) (tickO d) && (keptAll js ((i : Int) + 1) (incAll had ((tickO d).getD [])) && keepsGo js (List.replicate (spanN js) (n : Int)) ((ds.drop (i + 1)).map tickO) (i + 1) (incAll had ((tickO d).getD [])))) = R := hR
    rw [ec] at hR
    have ei : (0 : Int) + (i : Int) = (i : Int) := by omega
    rw [ei]
    have e9S := s9 _ _ e8
    have D9 := D8.mono s9
    refine ⟨_, rfl, _, rfl, pt, us, (i : Int), u, rfl, rfl, sameT s9 hT8, atI_nat hu, _, rfl, d, sets.map rowD, hud, .lst (SqL.of e9S) D9, ok.s, shaped_rowsL sets, _, rfl, ?_⟩
    have fits : ∀ s' ∈ sets, (rowD s').showable = true ∧ (rowD s').hasDict = false ∧ (rowD s').depth < 60 ∧ (rowD s').shown.length ≤ sizeLine := fun s' hs' => by
      obtain ⟨ss, k1, k2, rfl⟩ := sets_mem.mp ((mem s').mp hs')
      have f0 := fine_ints (l := posI ss) fun x hx => by
        obtain ⟨m, hm, rfl⟩ := List.mem_map.mp hx
        have := posL_in id ss 0 m hm
        refine ⟨by omega, Int.lt_trans (show ((m : Nat) : Int) < 1000 by omega) (by decide +kernel)⟩
      have l1 : (posI ss).length ≤ 6 := by
        show (List.map _ (posL id ss 0)).length ≤ 6
        rw [List.length_map]
        exact Nat.le_trans (posL_len _ _ _) (by omega)
      exact f0.tup.fits (by omega) (by decide)
    obtain ⟨t1, t2, t3, t4⟩ := ok.f.f.fits (by decide) (by decide)
    -- by its value
    cases ev : ((sets.map rowD).any fun z => PyData.eqv z d) with
    | false =>
      cases em : membersB (js.length : Int) (n : Int) (tickO d) with
      | true =>
        obtain ⟨ss, h1, h2, h3, _⟩ := tick_pass em
        have : ((sets.map rowD).any fun z => PyData.eqv z d) = true := List.any_eq_true.mpr ⟨rowD (posI ss), List.mem_map.mpr ⟨_, (mem _).mpr (sets_mem.mpr ⟨ss, h1, h2, rfl⟩), rfl⟩, by rw [h3]; show PyData.eqvAll _ _ = true; rw [eqv_ints]; exact decide_eq_true rfl⟩
        rw [ev] at this; cases this
      | false =>
        rw [em, Bool.false_and] at hR
        subst hR
        exact iteT (iteT (q H9 (s08.trans s9)))
    | true =>
      refine iteF ⟨_, rfl, _, rfl, pt, us, (i : Int), u, rfl, rfl, sameT s9 hT8, atI_nat hu, u, d, rfl, hud, t1, t2, t3, t4, _, rfl, S, rfl, ⟨zs, SqL.of e9S⟩, fun pl hpl => ?_⟩
      refine lc_list (K := K) (a := S) (xs := zs) (fun j Hm => Same H9 Hm ∧ Hm pl = some (.lst ((sets.take j).map fun s' => V.str (rowD s').shown))) ⟨same_new hpl, by rw [List.take_zero]; exact upd_same⟩ (fun _ _ _ z => SqL.of (z.1 _ _ e9S)) ?_ ?_
      · rintro j y Hm hy ⟨sm, em⟩
        obtain ⟨d', hd', hv'⟩ := D9.get hy
        rw [List.getElem?_map] at hd'
        obtain ⟨s', hs1, rfl⟩ : ∃ s', sets[j]? = some s' ∧ rowD s' = d' := by
          cases e : sets[j]? with
          | none => rw [e] at hd'; cases hd'
          | some s' => rw [e] at hd'; exact ⟨s', rfl, Option.some.inj hd'⟩
        obtain ⟨u1, u2, u3, u4⟩ := fits s' (List.mem_of_getElem? hs1)
        have jl : j < zs.length := (List.getElem?_eq_some_iff.mp hy).1
        refine ⟨rfl, _, rfl, y, rowD s', rfl, hv'.mono sm, u1, u2, u3, u4, _, em, ?_, Same.app hpl sm, ?_⟩
        · rw [List.length_map, List.length_take]; exact small1000 (by omega)
        · rw [upd_same, List.take_add_one, hs1, List.map_append]; rfl
      rintro Hm ⟨sm, em9⟩
      rw [lz, List.take_length] at em9
      refine ⟨pl, _, rfl, .inl (SqL.of em9), rfl, List.all_eq_true.mpr fun x hx => by obtain ⟨s', _, rfl⟩ := List.mem_map.mp hx; rfl, _, rfl, ?_⟩
      have s8m := s9.trans sm
      cases em : membersB (js.length : Int) (n : Int) (tickO d) with
      | false =>
        rcases tick_fail l3 mem ok.c em with z | z
        · rw [ev] at z; cases z
        have e2 : inV (V.str d.shown) (sets.map fun s' => V.str (rowD s').shown) = false := by
          unfold inV
          rw [List.any_eq_false]
          intro x hx
          obtain ⟨s', hs', rfl⟩ := List.mem_map.mp hx
          intro y
          have y : ((rowD s').shown == d.shown) = true := y
          exact z s' hs' (eq_of_beq y)
        show (if (if true = true then (!inV _ _) else _) = true then _ else _)
        rw [e2]
        rw [em, Bool.false_and] at hR
        subst hR
        exact iteT (q Hm (s08.trans s8m))
      | true =>
        obtain ⟨ss, h1, h2, h3, h4⟩ := tick_pass em
        have hrm : posI ss ∈ sets := (mem _).mpr (sets_mem.mpr ⟨ss, h1, h2, rfl⟩)
        have e2 : inV (V.str d.shown) (sets.map fun s' => V.str (rowD s').shown) = true := List.any_eq_true.mpr ⟨_, List.mem_map.mpr ⟨posI ss, hrm, rfl⟩, by rw [h3]; show ((rowD (posI ss)).shown == (rowD (posI ss)).shown) = true; exact beq_self_eq_true _⟩
        show (if (if true = true then (!inV _ _) else _) = true then _ else _)
        rw [e2]
        refine iteF ?_
        rw [em, Bool.true_and, h4] at hR
        have hR : (keptAll js ((i : Int) + 1) (incAll had ((posI ss).map some)) && keepsGo js (List.replicate (spanN js) (n : Int)) ((ds.drop (i + 1)).map tickO) (i + 1) (incAll had ((posI ss).map some))) = R := hR
        rw [plus_inc (had := had) (ss := ss) (by rw [h1, lh])] at hR
        obtain ⟨a, ws, rfl, hSa, hAa⟩ := (show Dp K H9 u (.tuple ((posI ss).map PyData.int)) by have z := hud; rw [h3] at z; exact z).tuple
        have ews : ws = (posI ss).map V.int := dpa_ints29 hAa
        subst ews
        refine ⟨_, rfl, _, rfl, _, rfl, pt, us, (i : Int), .ref a, rfl, rfl, sameT s8m hT8, atI_nat hu, ph, a, had, posI ss, rfl, SqT.of (sm _ _ eh), sameT sm hSa, by omega, fun pp Hq hpp sq epp => ?_⟩
        have s8q := s8m.trans sq
        have lp : (plusR had (posI ss)).length = js.length := by simp only [plusR, List.length_map, List.length_range]; exact lh
        refine ⟨_, rfl, _, rfl, _, rfl, _, _, rfl, rfl, p, qq, pp, n, js, plusR had (posI ss), (i : Int) + 1, rfl, sameT s8q hP8, hJ8.mono s8q, SqT.of epp, G, l6, lp, fun H' sH => ?_⟩
        rw [kept_near lp]
        cases ek : keptAll js ((i : Int) + 1) (plusR had (posI ss)) with
        | false =>
          rw [ek, Bool.false_and] at hR
          subst hR
          exact ⟨_, rfl, iteT (q H' (s08.trans (s8q.trans sH)))⟩
        | true =>
          rw [ek, Bool.true_and] at hR
          exact ⟨_, rfl, iteF ⟨s8q.trans sH, pp, plusR had (posI ss), _, _, sH _ _ epp, lp, hR, rfl⟩⟩
  · rintro σ H9 ⟨s9, ph, had, v4, v5, eh, lh, hR, rfl⟩
    have : ds.drop ((us.length : Nat) : Int).toNat = [] := by rw [Int.toNat_natCast, lu, List.drop_length]
    rw [this] at hR
    have hR : true = R := hR
    subst hR
    exact q _ (s08.trans s9)
end
end Ts
namespace Ts
open PySem PySem.Spec PyProof.Rows L2
theorem ixN_nat29 {n k : Nat} (h : k < n) : ixN n (k : Int) = some k := by
  unfold ixN
  split <;> simp <;> omega
section
variable {P : Program} {w : World} {K : PySem.W.Frag} {mg : Str → Option Value} {base : Heap}
theorem has_bent29 (D : DefAt K mg "_law_bent" s__law_bent) (B : Blt0 mg) (h__law_dig : Has P w K mg base 1 "_law_dig" ["_law_jar_here", "_law_many"] spLadle) (h__law_take : Has P w K mg base 2 "_law_take" ["_law_jar_here", "_law_some"] (spTakeJ K)) : Has P w K mg base 3 "_law_bent" ["_law_jar_here", "_law_rows", "_law_many"] (spBentJ K) := by
  refine D.has (fun _ _ _ _ _ _ us hl => match us, hl with | [_, _, _], _ => rfl) fun f fd F => F.ok sc__law_bent (fun vs H Q E h => ?_) (fun cdv A outer s H vs Q E hr h => ?_)
  · obtain ⟨b, t, us, rows, many, rfl, _⟩ := h; rfl
  obtain ⟨b, t, us, rows, many, rfl, hB, ht, R, l0, l12, hr3, m1, m3, q⟩ := h
  refine ⟨_, (C8.pss_cut (ps_asg (pe_tup (pa_cons (pe_h h__law_dig (hr.mono (by decide)) (pa_cons (pv 0) (pa_cons (pe_callB call_len_seq (by rfl) B.zlen (by decide +kernel) (pa_cons (pv 1) pa_nil)) pa_nil))) (pa_cons (pe_h h__law_dig (hr.mono (by decide)) (pa_cons (pv 0) (pa_cons pe_int pa_nil))) (pa_cons (pe_h h__law_dig (hr.mono (by decide)) (pa_cons (pv 0) (pa_cons (pv 2) pa_nil))) pa_nil)))) (pg_tup rfl (pgs_cons (pg_name (i := 3) sc__law_bent.nd rfl (.inl rfl)) (pgs_cons (pg_name (i := 4) sc__law_bent.nd rfl (.inl rfl)) (pgs_cons (pg_name (i := 5) sc__law_bent.nd rfl (.inr rfl)) pgs_nil)))))
      (pss_cons (ps_set (i := 6) sc__law_bent.nd rfl (.inl rfl) (pe_ix ix_tup (pv 1) (pv 3) (fun _ _ => rfl)))
      (C8.pss_cut (ps_if (pt_cmpR op_eq (pv 4) pe_int (nomark _)) (pss_one (ps_set (i := 6) sc__law_bent.nd rfl (.inl rfl) (pe_callTy call_tuple_of (by rfl) B.ztuple (by decide +kernel) (pa_cons (pe_callB cr_sorted (by rfl) B.zsorted (by decide +kernel) (pa_cons (pe_ifExp (pt_cmpR op_in_seq (pv 5) (pv 6) (by rfl)) (pe_lc (own := [("_law_j", 7)]) rfl sc__law_bent.nd (pi_tup (pv 6)) (blkOk_by (N := ["_law_jar_here", "_law_rows", "_law_many", "_law_at", "_law_way", "_law_k", "_law_tick", "_law_j", "_law_other_at", "_law_swapped"]) (sc := defScope s__law_bent) (own := [("_law_j", 7)]) (by decide +kernel)) (fun _ _ _ _ _ => (pg_name (i := 7) sc__law_bent.nd rfl (.inl rfl) (.inr rfl))) (fun _ _ _ _ _ => (pts_one (pt_cmpR op_ne (pv 7) (pv 5) (nomark _)))) (fun _ _ _ _ _ => (pv 7))) (pe_op op_cat (pe_callTy call_list_of (by rfl) B.zlist (by decide +kernel) (pa_cons (pv 6) pa_nil)) (pe_lst (pa_cons (pv 5) pa_nil)))) pa_nil)) pa_nil)))) pss_nil)
      (C8.pss_cut (ps_if (pt_cmpR op_eq (pv 4) pe_int (nomark _)) (pss_one (ps_set (i := 6) sc__law_bent.nd rfl (.inl rfl) (pe_revT (pv 6)))) pss_nil)
      (C8.pss_cut (ps_if (pt_cmpR op_eq (pv 4) pe_int (nomark _)) (pss_one (ps_set (i := 6) sc__law_bent.nd rfl (.inl rfl) (pe_op (op_catUK (K := K) rfl) (pv 6) (pe_tup (pa_cons (pe_h h__law_take (hr.mono (by decide)) (pa_cons (pv 0) (pa_cons (pe_lst (pa_cons (pv 2) (pa_cons (pe_un un_neg pe_int) (pa_cons (pv 5) (pa_cons pe_bl (pa_cons pe_non (pa_cons pe_str pa_nil))))))) pa_nil))) pa_nil))))) pss_nil)
      (C8.pss_cut (ps_if (pt_cmpR op_eq (pv 4) pe_int (nomark _)) (pss_one (ps_set (i := 6) sc__law_bent.nd rfl (.inl rfl) (pe_h h__law_take (hr.mono (by decide)) (pa_cons (pv 0) (pa_cons (pe_lst (pa_cons (pe_callTy call_list_of (by rfl) B.zlist (by decide +kernel) (pa_cons (pv 6) pa_nil)) (pa_cons pe_non (pa_cons pe_int (pa_cons pe_bl (pa_cons (pe_tup (pa_cons (pe_tup pa_nil) pa_nil)) pa_nil)))))) pa_nil))))) pss_nil)
      (pss_cons (ps_if (pt_cmpR op_eq (pv 4) pe_int (nomark _)) (pss_cons (ps_set (i := 8) sc__law_bent.nd rfl (.inl rfl) (pe_h h__law_dig (hr.mono (by decide)) (pa_cons (pv 0) (pa_cons (pe_callB call_len_seq (by rfl) B.zlen (by decide +kernel) (pa_cons (pv 1) pa_nil)) pa_nil))))
      (pss_cons (ps_set (i := 9) sc__law_bent.nd rfl (.inl rfl) (pe_callTy call_list_of (by rfl) B.zlist (by decide +kernel) (pa_cons (pv 1) pa_nil)))
      (pss_cons (ps_asg (pe_tup (pa_cons (pe_ix ix_tup (pv 1) (pv 8) (fun _ _ => rfl)) (pa_cons (pe_ix ix_tup (pv 1) (pv 3) (fun _ _ => rfl)) pa_nil))) (pg_tup rfl (pgs_cons (pg_sub (pv 9) (pv 3) set_list) (pgs_cons (pg_sub (pv 9) (pv 8) set_list) pgs_nil))))
      (pss_one (ps_ret (pe_callTy call_tuple_of (by rfl) B.ztuple (by decide +kernel) (pa_cons (pv 9) pa_nil))))))) pss_nil)
      (pss_cons (ps_if (pt_cmpR op_eq (pv 4) pe_int (nomark _)) (pss_one (ps_ret (pe_h h__law_take (hr.mono (by decide)) (pa_cons (pv 0) (pa_cons (pe_lst (pa_cons (pe_slice (sl_tupUK (K := K) rfl) (pv 1) po_none (po_some (pe_un un_neg pe_int))) (pa_cons (pe_op (op_catUK (K := K) rfl) (pv 1) (pv 1)) (pa_cons (pe_op (op_catUK (K := K) rfl) (pv 1) (pe_tup (pa_cons (pe_tup pa_nil) pa_nil))) (pa_cons (pe_callTy call_list_of (by rfl) B.zlist (by decide +kernel) (pa_cons (pv 1) pa_nil)) (pa_cons (pe_tup pa_nil) (pa_cons pe_non (pa_cons pe_int (pa_cons pe_bl pa_nil))))))))) pa_nil))))) pss_nil)
      (pss_one (ps_ret (pe_op (op_catUK (K := K) rfl) (pe_op (op_catUK (K := K) rfl) (pe_slice (sl_tupUK (K := K) rfl) (pv 1) po_none (po_some (pv 3))) (pe_tup (pa_cons (pv 6) pa_nil))) (pe_slice (sl_tupUK (K := K) rfl) (pv 1) (po_some (pe_op op_add (pv 3) pe_int)) po_none)))))))))))), ?_⟩
  have lu : us.length = rows.length := by rw [R.length, List.length_map]
  have hF : ∀ r ∈ rows, FewR r := fun r hr => ⟨by have := (hr3 r hr).1; omega, (hr3 r hr).2⟩
  -- where, how, which
  refine ⟨fun σ Hm => But b H Hm ∧ Bas Hm b ∧ ∃ (at_ way k : Nat), at_ < rows.length ∧ way < 9 ∧ k < many ∧ σ = [some (.ref b), some (.ref t), some (.int (many : Int)), some (.int (at_ : Int)), some (.int (way : Int)), some (.int (k : Int)), none, none, none, none], ?_, ?_⟩
  · refine ⟨_, rfl, _, rfl, t, us, rfl, .inr (sameT hid_sub ht), b, _, rfl, hB, by omega, by omega, fun a1 H1 a10 a11 b1 B1 => ⟨_, rfl, b, 9, rfl, B1, by decide, by decide, fun a2 H2 a20 a21 b2 B2 => ⟨_, rfl, _, rfl, b, _, rfl, B2, by omega, by omega, fun a3 H3 a30 a31 b3 B3 => ⟨by show 3 ≤ sizeLine; decide, fun pt hpt => ⟨pt, _, rfl, SqT.of upd_same, rfl, _, _, rfl, _, _, rfl, _, _, rfl, rfl, ?_⟩⟩⟩⟩⟩
    have s4 := same_new (o := .tup [V.int a1, .int a2, .int a3]) hpt
    obtain ⟨x1, rfl⟩ := Int.eq_ofNat_of_zero_le a10
    obtain ⟨x2, rfl⟩ := Int.eq_ofNat_of_zero_le a20
    obtain ⟨x3, rfl⟩ := Int.eq_ofNat_of_zero_le a30
    exact ⟨((b1.trans b2).trans b3).trans' s4, B3.on s4, x1, x2, x3, by omega, by omega, by omega, rfl⟩
  rintro σ H1 ⟨b1, B1, at_, way, k, hat, hway, hk, rfl⟩
  have ht1 := sameT b1.hid ht
  have R1 := R.mono b1.hid
  obtain ⟨u, hu⟩ : ∃ u, us[at_]? = some u := ⟨_, List.getElem?_eq_getElem (by omega)⟩
  obtain ⟨ua, r0, rfl, hr0, hua⟩ := row_get29 R1 hu
  have f0 := hF r0 (List.mem_of_getElem? hr0)
  have U1 : RowU K (hid b H1) (.ref ua) r0 := ⟨ua, rfl, hua⟩
  refine ⟨_, rfl, _, rfl, t, us, (at_ : Int), .ref ua, rfl, rfl, sameT hid_sub ht1, atI_nat hu, ?_⟩
  dsimp only [List.set]
  -- a work put in or taken out
  refine ⟨fun σ Hm => But b H Hm ∧ Bas Hm b ∧ ∃ (u : V) (r : List Int) (v7 : Option V), RowU K (hid b Hm) u r ∧ FewR r ∧ σ = [some (.ref b), some (.ref t), some (.int (many : Int)), some (.int (at_ : Int)), some (.int (way : Int)), some (.int (k : Int)), some u, v7, none, none], ?_, ?_⟩
  · obtain ⟨ua2, eu, hS⟩ := U1
    cases eu
    have hS1 := sameT hid_sub hS
    have fin : ∀ {Hx : Hp} {l p2 : Addr} {ns ns2 : List Int}, Same H1 Hx → ns.length ≤ 4 → (∀ i ∈ ns, 0 ≤ i ∧ i < 3) → ns2.Perm ns → Hx p2 = none → (upd Hx p2 (.lst (ns2.map V.int))) l = none →
        But b H (upd (upd Hx p2 (.lst (ns2.map V.int))) l (.tup (ns2.map V.int))) ∧ Bas (upd (upd Hx p2 (.lst (ns2.map V.int))) l (.tup (ns2.map V.int))) b ∧ RowU K (hid b (upd (upd Hx p2 (.lst (ns2.map V.int))) l (.tup (ns2.map V.int)))) (.ref l) ns2 ∧ FewR ns2 := fun {Hx l p2 ns ns2} sx ll hb pm hp2 hl2 => by
      have s2 := (sx.trans (same_new (o := .lst (ns2.map V.int)) hp2)).trans (same_new (o := .tup (ns2.map V.int)) hl2)
      have B2 := B1.on s2
      exact ⟨b1.trans' s2, B2, ⟨l, rfl, SqT.of ((hid_ne (tup_off upd_same B2)).trans upd_same)⟩, by rw [pm.length_eq]; exact ll, fun i hi => hb i (pm.mem_iff.mp hi)⟩
    refine ⟨_, rfl, rfl, _, rfl, ite2 (fun c => ?_) (fun c => ⟨b1, B1, _, r0, none, ⟨ua, rfl, hS⟩, f0, rfl⟩)⟩
    refine ⟨_, rfl, _, rfl, ua, _, rfl, .inr hS1, rfl, List.all_eq_true.mpr (fun x hx => by obtain ⟨i, _, rfl⟩ := List.mem_map.mp hx; rfl), _, rfl, ite2 (fun c2 => ?_) (fun c2 => ?_)⟩
    · refine ⟨_, rfl, ua, rfl, ⟨_, hS1⟩, fun pl hpl => ?_⟩
      refine lc_it (walk_tup (K := K) (a := ua) (xs := r0.map V.int)) (fun i Hx => Same H1 Hx ∧ Hx pl = some (.lst (((r0.take i).filter fun j => !decide (j = (k : Int))).map V.int))) ⟨same_new hpl, by rw [List.take_zero]; exact upd_same⟩ (fun i Hx _ z => sameT z.1 hS1) ?_ ?_
      · rintro i y Hx Hx' hi ⟨sx, ex⟩ ⟨e9, hy⟩
        cases e9
        obtain ⟨j, hj, rfl⟩ : ∃ j, r0[i]? = some j ∧ V.int j = y := by
          rw [List.getElem?_map] at hy
          cases z : r0[i]? with
          | none => rw [z] at hy; cases hy
          | some j => rw [z] at hy; exact ⟨j, rfl, Option.some.inj hy⟩
        have ef : (r0.take (i + 1)).filter (fun j => !decide (j = (k : Int))) = (r0.take i).filter (fun j => !decide (j = (k : Int))) ++ (if (!decide (j = (k : Int))) = true then [j] else []) := by
          rw [List.take_add_one, hj, List.filter_append]
          congr 1
          show List.filter _ [j] = _
          rw [List.filter_cons]
          rfl
        refine ⟨rfl, _, rfl, _, rfl, rfl, _, rfl, ?_⟩
        rw [ef]
        have ed : (!decide (V.int j = V.int (k : Int))) = !decide (j = (k : Int)) := by
          by_cases z : j = (k : Int)
          · rw [z]; simp
          · rw [decide_eq_false z, decide_eq_false (fun y => z (V.int.inj y))]
        rw [ed]
        cases (!decide (j = (k : Int))) with
        | false => exact iteF ⟨sx, by rw [ex]; simp⟩
        | true =>
          refine iteT ⟨_, rfl, _, ex, ?_, Same.app hpl sx, ?_⟩
          · rw [List.length_map]
            have h1 := List.length_filter_le (fun j => !decide (j = (k : Int))) (r0.take i)
            rw [List.length_take] at h1
            exact small1000 (by have := f0.1; omega)
          · rw [upd_same, List.map_append]; rfl
      · rintro Hx ⟨sx, ex⟩
        rw [List.length_map, List.take_length] at ex
        have ll := Nat.le_trans (List.length_filter_le (fun j => !decide (j = (k : Int))) r0) f0.1
        refine ⟨pl, _, rfl, SqL.of ex, by omega, fun ns2 p2 pm _ hp2 => ⟨p2, _, rfl, .inl ⟨SqL.of upd_same, fun l hl2 => ?_⟩⟩⟩
        obtain ⟨x1, x2, x3, x4⟩ := fin sx ll (fun i hi => f0.2 i (List.mem_filter.mp hi).1) pm hp2 hl2
        exact ⟨x1, x2, _, _, _, x3, x4, rfl⟩
    · have nk : (k : Int) ∉ r0 := fun z => c2 (by show inV (V.int (k : Int)) (r0.map V.int) = true; rw [inV_ints]; exact decide_eq_true z)
      have r3 : r0.length ≤ 3 := (hr3 r0 (List.mem_of_getElem? hr0)).1
      refine ⟨_, rfl, ua, _, rfl, .inr hS1, fun l1 hl1 => ⟨_, rfl, by show 1 ≤ sizeLine; decide, fun l2 hl2 => ⟨l1, l2, _, _, rfl, rfl, same_new hl2 _ _ upd_same, upd_same, (by rw [List.length_map]; exact Nat.le_of_lt (small1000 (by show r0.length + 1 ≤ 1000; omega))), fun l3 hl3 => ?_⟩⟩⟩
      have sx := ((same_new (o := .lst (r0.map V.int)) hl1).trans (same_new (o := .lst [V.int (k : Int)]) hl2)).trans (same_new (o := .lst (r0.map V.int ++ [V.int (k : Int)])) hl3)
      have ex : (upd (upd (upd H1 l1 (.lst (r0.map V.int))) l2 (.lst [V.int (k : Int)])) l3 (.lst (r0.map V.int ++ [V.int (k : Int)]))) l3 = some (.lst ((r0 ++ [(k : Int)]).map V.int)) := by rw [upd_same, List.map_append]; rfl
      have ll : (r0 ++ [(k : Int)]).length ≤ 4 := by rw [List.length_append]; show r0.length + 1 ≤ 4; omega
      refine ⟨l3, _, rfl, SqL.of ex, by omega, fun ns2 p2 pm _ hp2 => ⟨p2, _, rfl, .inl ⟨SqL.of upd_same, fun l hl2 => ?_⟩⟩⟩
      obtain ⟨x1, x2, x3, x4⟩ := fin sx ll (fun i hi => by
        rcases List.mem_append.mp hi with h | h
        · exact f0.2 i h
        · rw [List.mem_singleton.mp h]; omega) pm hp2 hl2
      exact ⟨x1, x2, _, _, _, x3, x4, rfl⟩
  clear U1
  rintro σ H2 ⟨b2, B2, u1, r1, v7, U1, f1, rfl⟩
  -- turned
  refine ⟨fun σ Hm => But b H Hm ∧ Bas Hm b ∧ ∃ (u : V) (r : List Int) (v7 : Option V), RowU K (hid b Hm) u r ∧ FewR r ∧ σ = [some (.ref b), some (.ref t), some (.int (many : Int)), some (.int (at_ : Int)), some (.int (way : Int)), some (.int (k : Int)), some u, v7, none, none], ?_, ?_⟩
  · obtain ⟨ua2, eu, hS⟩ := id U1
    subst eu
    refine ⟨_, rfl, rfl, _, rfl, ite2 (fun c => ?_) (fun c => ⟨b2, B2, _, r1, _, U1, f1, rfl⟩)⟩
    refine ⟨_, rfl, ua2, _, rfl, sameT hid_sub hS, fun p1 hp1 => ?_⟩
    have s2 := same_new (o := .tup (r1.map V.int).reverse) hp1
    have B3 := B2.on s2
    exact ⟨b2.trans' s2, B3, _, r1.reverse, _, ⟨p1, rfl, SqT.of ((hid_ne (tup_off upd_same B3)).trans (by rw [upd_same, List.map_reverse]))⟩, ⟨by rw [List.length_reverse]; exact f1.1, fun i hi => f1.2 i (List.mem_reverse.mp hi)⟩, rfl⟩
  clear U1 f1 B2 b2
  rintro σ H3 ⟨b3, B3, u2, r2, v7', U2, f2, rfl⟩
  -- one more of another kind
  refine ⟨fun σ Hm => But b H Hm ∧ Bas Hm b ∧ ∃ (u : V) (d : PyData) (v7 : Option V), Dp K (hid b Hm) u d ∧ TickOk d ∧ (way = 3 → ∃ r, RowU K (hid b Hm) u r ∧ FewR r) ∧ σ = [some (.ref b), some (.ref t), some (.int (many : Int)), some (.int (at_ : Int)), some (.int (way : Int)), some (.int (k : Int)), some u, v7, none, none], ?_, ?_⟩
  · obtain ⟨ua2, eu, hS⟩ := id U2
    subst eu
    refine ⟨_, rfl, rfl, _, rfl, ite2 (fun c => ?_) (fun c => ⟨b3, B3, _, _, _, U2.dp, f2.ok, fun _ => ⟨_, U2, f2⟩, rfl⟩)⟩
    have hw : way = 2 := by have := of_decide_eq_true c; have := V.int.inj this; omega
    refine ⟨_, rfl, _, rfl, _, rfl, _, rfl, _, rfl, by show 6 ≤ sizeLine; decide, fun M hM => ?_⟩
    have nM := B3.off hM
    have sM := same_new (o := .lst [V.int (many : Int), .int (-1), .int (k : Int), .bl true, .non, .str "0"]) hM
    refine ⟨b, M, [V.int (many : Int), .int (-1), .int (k : Int), .bl true, .non, .str "0"], rfl, B3.on sM, SqL.of ((hid_ne nM).trans upd_same), (show 0 < 6 by decide), (show 6 ≤ 1000 by decide), fun v H4 hv b4 B4 => ⟨by show 1 ≤ sizeLine; decide, fun p1 hp1 => ?_⟩⟩
    have s5 := same_new (o := .tup [v]) hp1
    have b35 : But b H3 _ := ((But.of_same sM).trans b4).trans' s5
    have B5 := B4.on s5
    refine ⟨ua2, p1, _, [v], rfl, rfl, sameT hid_sub (sameT b35.hid hS), SqT.of upd_same, (by rw [List.length_map]; exact Nat.le_of_lt (small1000 (by show r2.length + 1 ≤ 1000; have := f2.1; omega))), fun p2 H6 s6 _ hS6 => ?_⟩
    have B6 := B5.on s6
    obtain ⟨z1, z2, z3, eb6⟩ := id B6
    have hS7 : SqT K (hid b H6) p2 (r2.map V.int ++ [v]) := SqT.offL hS6 eb6
    have hb2 : ∀ i ∈ r2, -1 ≤ i ∧ i < 10 ^ 40 := fun i hi => by have := f2.2 i hi; exact ⟨by omega, Int.lt_trans this.2 (by decide +kernel)⟩
    have out : ∃ d, Dp K (hid b H6) (.ref p2) d ∧ TickOk d := by
      have num : ∀ x : Int, -1 ≤ x → x < 4 → v = .int x → ∃ d, Dp K (hid b H6) (.ref p2) d ∧ TickOk d := fun x h1 h2 e => by
        subst e
        refine ⟨rowD (r2 ++ [x]), .tup (by rw [List.map_append]; exact hS7) (.ints _), tick_row (by rw [List.length_append]; show r2.length + 1 ≤ 10; have := f2.1; omega) fun i hi => ?_⟩
        rcases List.mem_append.mp hi with h | h
        · exact hb2 i h
        · rw [List.mem_singleton.mp h]; exact ⟨h1, Int.lt_trans h2 (by decide +kernel)⟩
      have odd : ∀ x : PyData, Dp K (hid b H6) v x → (x = .bool true ∨ x = .none ∨ x = .str "0") → ∃ d, Dp K (hid b H6) (.ref p2) d ∧ TickOk d := fun x hx hk9 =>
        ⟨.tuple (r2.map PyData.int ++ [x]), .tup hS7 ((DpAll.ints r2).append (.cons hx .nil)), tick_odd (by have := f2.1; omega) hb2 hk9⟩
      rcases List.mem_cons.mp hv with e | hv
      · exact num _ (by omega) (by omega) e
      rcases List.mem_cons.mp hv with e | hv
      · exact num _ (by decide) (by decide) e
      rcases List.mem_cons.mp hv with e | hv
      · exact num _ (by omega) (by omega) e
      rcases List.mem_cons.mp hv with e | hv
      · subst e; exact odd _ (.bl true) (.inl rfl)
      rcases List.mem_cons.mp hv with e | hv
      · subst e; exact odd _ .non (.inr (.inl rfl))
      rcases List.mem_cons.mp hv with e | hv
      · subst e; exact odd _ (.str _) (.inr (.inr rfl))
      · cases hv
    obtain ⟨d, o1, o2⟩ := out
    exact ⟨(b3.trans b35).trans' s6, B6, _, d, _, o1, o2, fun z => by omega, rfl⟩
  clear U2 f2 B3 b3
  rintro σ H4 ⟨b4, B4, u3, d3, v7'', D3, t3, w3, rfl⟩
  -- another thing
  refine ⟨fun σ Hm => But b H Hm ∧ Bas Hm b ∧ ∃ (u : V) (d : PyData) (v7 : Option V), Dp K (hid b Hm) u d ∧ TickOk d ∧ σ = [some (.ref b), some (.ref t), some (.int (many : Int)), some (.int (at_ : Int)), some (.int (way : Int)), some (.int (k : Int)), some u, v7, none, none], ?_, ?_⟩
  · refine ⟨_, rfl, rfl, _, rfl, ite2 (fun c => ?_) (fun c => ⟨b4, B4, _, d3, _, D3, t3, rfl⟩)⟩
    have hw : way = 3 := by have := of_decide_eq_true c; have := V.int.inj this; omega
    obtain ⟨r, ⟨ua3, eu, hS⟩, f3⟩ := w3 hw
    subst eu
    refine ⟨_, rfl, _, rfl, ua3, _, rfl, .inr (sameT hid_sub hS), fun l1 h1 => ⟨by show 0 ≤ sizeLine; decide, fun e0 h2 => ⟨by show 1 ≤ sizeLine; decide, fun e1 h3 => ⟨by show 5 ≤ sizeLine; decide, fun M hM => ?_⟩⟩⟩⟩
    have s1 := same_new (o := .lst (r.map V.int)) h1
    have s2 := same_new (o := .tup []) h2
    have s3 := same_new (o := .tup [V.ref e0]) h3
    have sM := same_new (o := .lst [V.ref l1, .non, .int 0, .bl true, .ref e1]) hM
    have n1 := B4.off h1
    have B7 := ((B4.on s1).on s2).on s3
    have nM := B7.off hM
    have hb3 : ∀ i ∈ r, -1 ≤ i ∧ i < 10 ^ 40 := fun i hi => by have := f3.2 i hi; exact ⟨by omega, Int.lt_trans this.2 (by decide +kernel)⟩
    refine ⟨b, M, [V.ref l1, .non, .int 0, .bl true, .ref e1], rfl, B7.on sM, SqL.of ((hid_ne nM).trans upd_same), (show 0 < 5 by decide), (show 5 ≤ 1000 by decide), fun v H5 hv b5 B5 => ?_⟩
    have sA := ((s1.trans s2).trans s3).trans sM
    have bA : But b H4 H5 := (But.of_same sA).trans b5
    have q1 : H5 l1 = some (.lst (r.map V.int)) := b5 _ _ n1 (sM _ _ (s3 _ _ (s2 _ _ upd_same)))
    have q2 : H5 e0 = some (.tup []) := b5 _ _ ((B4.on s1).off h2) (sM _ _ (s3 _ _ upd_same))
    have q3 : H5 e1 = some (.tup [V.ref e0]) := b5 _ _ (((B4.on s1).on s2).off h3) (sM _ _ upd_same)
    have out : ∃ d, Dp K (hid b H5) v d ∧ TickOk d := by
      rcases List.mem_cons.mp hv with e | hv
      · subst e; exact ⟨_, .lst (SqL.of ((hid_ne n1).trans q1)) (.ints _), tick_lst (by have := f3.1; omega) hb3⟩
      rcases List.mem_cons.mp hv with e | hv
      · subst e; exact ⟨_, .non, tick_non⟩
      rcases List.mem_cons.mp hv with e | hv
      · subst e; exact ⟨_, .int 0, tick_zero⟩
      rcases List.mem_cons.mp hv with e | hv
      · subst e; exact ⟨_, .bl true, tick_tru⟩
      rcases List.mem_cons.mp hv with e | hv
      · subst e; exact ⟨_, .tup (SqT.of ((hid_ne (tup_off q3 B5)).trans q3)) (.cons (.tup (SqT.of ((hid_ne (tup_off q2 B5)).trans q2)) .nil) .nil), tick_nest⟩
      · cases hv
    obtain ⟨d, o1, o2⟩ := out
    exact ⟨b4.trans bA, B5, _, d, _, o1, o2, rfl⟩
  clear D3 t3 w3 B4 b4
  rintro σ H5 ⟨b5, B5, u4, d4, v8, D4, t4, rfl⟩
  have ht5 := sameT b5.hid ht
  have R5 := R.mono b5.hid
  have hu5 : us[at_]? = some (.ref ua) := hu
  -- two ticks exchanged
  refine ⟨_, rfl, rfl, _, rfl, ite2 (fun c => ?_) (fun c => ?_)⟩
  · refine ⟨_, rfl, _, rfl, t, us, rfl, .inr (sameT hid_sub ht5), b, _, rfl, B5, by omega, by omega, fun o H6 o0 o1 b6 B6 => ?_⟩
    obtain ⟨o, rfl⟩ := Int.eq_ofNat_of_zero_le o0
    have b06 := b5.trans b6
    have ht6 := sameT b06.hid ht
    have R6 := R.mono b06.hid
    have ol : o < us.length := by omega
    obtain ⟨y, hy⟩ : ∃ y, us[o]? = some y := ⟨_, List.getElem?_eq_getElem ol⟩
    obtain ⟨oa, r9, rfl, hr9, hoa⟩ := row_get29 R6 hy
    obtain ⟨ua', r0', eua, hr0', hua6⟩ := row_get29 R6 hu5
    cases eua
    rw [hr0] at hr0'
    cases Option.some.inj hr0'
    dsimp only [List.set]
    refine ⟨_, rfl, t, us, rfl, .inr (sameT hid_sub ht6), fun pl hpl => ?_⟩
    have s7 := same_new (o := .lst us) hpl
    dsimp only [List.set]
    refine ⟨_, rfl, _, rfl, t, us, (o : Int), .ref oa, rfl, rfl, sameT s7 (sameT hid_sub ht6), atI_nat hy, _, rfl, _, rfl, t, us, (at_ : Int), .ref ua, rfl, rfl, sameT s7 (sameT hid_sub ht6), atI_nat hu, by show 2 ≤ sizeLine; decide, fun p2 hp2 => ?_⟩
    have s8 := same_new (o := .tup [V.ref oa, .ref ua]) hp2
    have el : (upd (upd H6 pl (.lst us)) p2 (.tup [V.ref oa, .ref ua])) pl = some (.lst us) := s8 _ _ upd_same
    refine ⟨p2, _, rfl, SqT.of upd_same, rfl, _, _, rfl, _, rfl, _, rfl, pl, us, (at_ : Int), at_, rfl, rfl, el, ixN_nat29 (by omega), _, _, rfl, _, rfl, _, rfl, pl, _, (o : Int), o, rfl, rfl, upd_same, ixN_nat29 (by rw [List.length_set]; exact ol), rfl, ?_⟩
    refine ⟨_, rfl, pl, _, rfl, .inl ⟨SqL.of upd_same, fun l hl => ?_⟩⟩
    have h6 : H6 pl = none := hpl
    have s9 : Same H6 (upd (upd (upd (upd (upd H6 pl (.lst us)) p2 (.tup [V.ref oa, .ref ua])) pl (.lst (us.set at_ (.ref oa)))) pl (.lst ((us.set at_ (.ref oa)).set o (.ref ua)))) l (.tup ((us.set at_ (.ref oa)).set o (.ref ua)))) :=
      (Same.app h6 (Same.app h6 (s7.trans s8))).trans (same_new hl)
    have B9 := B6.on s9
    have R9 := (dpa_put29 (dpa_put29 R6 (Dp.tup hoa (.ints r9)) at_) (Dp.tup hua6 (.ints r0)) o).mono (hid_same (b := b) s9)
    have eR : ((rows.map rowD).set at_ (.tuple (r9.map PyData.int))).set o (.tuple (r0.map PyData.int)) = ((rows.set at_ r9).set o r0).map rowD := by rw [List.map_set, List.map_set]
    rw [eR] at R9
    refine q (.ref l) (.tuple (((rows.set at_ r9).set o r0).map rowD)) _ (bent_rows (by rw [List.length_set, List.length_set]; omega) fun r hr => ?_) (b06.trans' s9) B9 (.tup (SqT.of ((hid_ne (tup_off upd_same B9)).trans upd_same)) R9)
    rcases List.mem_or_eq_of_mem_set hr with h | h
    · rcases List.mem_or_eq_of_mem_set h with h | h
      · exact hF r h
      · rw [h]; exact hF _ (List.mem_of_getElem? hr9)
    · rw [h]; exact f0
  -- another table
  refine ⟨_, rfl, rfl, _, rfl, ite2 (fun c => ?_) (fun c => ?_)⟩
  · refine ⟨_, rfl, _, rfl, _, rfl, _, rfl, t, us, rfl, sameT hid_sub ht5, fun p1 Ha sa _ hS1 _ => ?_⟩
    rw [cut_last] at hS1
    refine ⟨_, rfl, _, rfl, t, t, us, us, rfl, rfl, sameT sa (sameT hid_sub ht5), sameT sa (sameT hid_sub ht5), Nat.le_of_lt (small1000 (by omega)), fun p2 Hb sb _ hS2 => ?_⟩
    refine ⟨_, rfl, by show 0 ≤ sizeLine; decide, fun e0 h0 => ⟨by show 1 ≤ sizeLine; decide, fun e1 h1 => ?_⟩⟩
    have s0 := same_new (o := .tup []) h0
    have s1 := same_new (o := .tup [V.ref e0]) h1
    have sab := sa.trans sb
    have s3 := (sab.trans s0).trans s1
    refine ⟨t, e1, us, _, rfl, rfl, sameT s3 (sameT hid_sub ht5), SqT.of upd_same, (by show us.length + 1 ≤ sizeLine; exact Nat.le_of_lt (small1000 (by omega))), fun p3 Hc sc _ hS3 => ?_⟩
    have s4 := s3.trans sc
    refine ⟨_, rfl, t, us, rfl, .inr (sameT s4 (sameT hid_sub ht5)), fun l4 h4 => ⟨by show 0 ≤ sizeLine; decide, fun z5 h5 => ⟨by show 8 ≤ sizeLine; decide, fun M hM => ?_⟩⟩⟩
    have s5 := same_new (o := .lst us) h4
    have s6 := same_new (o := .tup []) h5
    have sM := same_new (o := .lst [V.ref p1, .ref p2, .ref p3, .ref l4, .ref z5, .non, .int 3, .bl true]) hM
    have s46 := (s4.trans s5).trans s6
    have B6 := B5.on s46
    have nM := B6.off hM
    have n4 := (B5.on s4).off h4
    refine ⟨b, M, [V.ref p1, .ref p2, .ref p3, .ref l4, .ref z5, .non, .int 3, .bl true], rfl, B6.on sM, SqL.of ((hid_ne nM).trans upd_same), (show 0 < 8 by decide), (show 8 ≤ 1000 by decide), fun v H7 hv b7 B7 => ?_⟩
    have sAll := s46.trans sM
    have BM := B5.on sAll
    obtain ⟨w1, w2, w3, ebM⟩ := id BM
    have bAll : But b H5 H7 := (But.of_same sAll).trans b7
    have R7 : DpAll K (hid b H7) us (rows.map rowD) := R.mono (b5.trans bAll).hid
    have k1 : SqT K (hid b H7) p1 (us.take (us.length - 1)) := sameT b7.hid (SqT.offL (sameT ((((((sb.trans s0).trans s1).trans sc).trans s5).trans s6).trans sM) hS1) ebM)
    have k2 : SqT K (hid b H7) p2 (us ++ us) := sameT b7.hid (SqT.offL (sameT (((((s0.trans s1).trans sc).trans s5).trans s6).trans sM) hS2) ebM)
    have k3 : SqT K (hid b H7) p3 (us ++ [.ref e0]) := sameT b7.hid (SqT.offL (sameT ((s5.trans s6).trans sM) hS3) ebM)
    have q0 : (hid b H7) e0 = some (.tup []) := by
      have := b7 _ _ ((B5.on sab).off h0) (sM _ _ (s6 _ _ (s5 _ _ (sc _ _ (s1 _ _ upd_same)))))
      exact (hid_ne (tup_off this B7)).trans this
    have q4 : (hid b H7) l4 = some (.lst us) := by
      have := b7 _ _ n4 (sM _ _ (s6 _ _ upd_same))
      exact (hid_ne n4).trans this
    have q5 : (hid b H7) z5 = some (.tup []) := by
      have := b7 _ _ (((B5.on s4).on s5).off h5) (sM _ _ upd_same)
      exact (hid_ne (tup_off this B7)).trans this
    have fe : TickOk (.tuple []) := tick_row (r := []) (by decide) fun _ z => by cases z
    have go : ∀ d, BentOk d → Dp K (hid b H7) v d → Q v H7 := fun d h1 h2 => q v d H7 h1 (b5.trans bAll) B7 h2
    rcases List.mem_cons.mp hv with e | hv
    · subst e
      exact go _ (bent_rows (rows := rows.take (us.length - 1)) (by rw [List.length_take]; omega) fun r hr => hF r (List.mem_of_mem_take hr)) (.tup k1 (by rw [List.map_take]; exact dpa_take29 R7 _))
    rcases List.mem_cons.mp hv with e | hv
    · subst e
      exact go _ (bent_rows (rows := rows ++ rows) (by rw [List.length_append]; omega) fun r hr => (List.mem_append.mp hr).elim (hF r) (hF r)) (.tup k2 (by rw [List.map_append]; exact R7.append R7))
    rcases List.mem_cons.mp hv with e | hv
    · subst e
      exact go _ (bent_rows (rows := rows ++ [[]]) (by rw [List.length_append]; show rows.length + 1 ≤ 30; omega) fun r hr => (List.mem_append.mp hr).elim (hF r) fun h => by rw [List.mem_singleton.mp h]; exact ⟨by decide, fun _ z => by cases z⟩) (.tup k3 (by rw [List.map_append]; exact R7.append (.cons (.tup (SqT.of q0) .nil) .nil)))
    rcases List.mem_cons.mp hv with e | hv
    · subst e
      exact go (.list (rows.map rowD)) (.inr fun ds z => by cases z) (.lst (SqL.of q4) R7)
    rcases List.mem_cons.mp hv with e | hv
    · subst e
      exact go (.tuple []) (.inl ⟨[], rfl, by decide, fun _ z => by cases z⟩) (.tup (SqT.of q5) .nil)
    rcases List.mem_cons.mp hv with e | hv
    · subst e; exact go .none (.inr fun ds z => by cases z) .non
    rcases List.mem_cons.mp hv with e | hv
    · subst e; exact go (.int 3) (.inr fun ds z => by cases z) (.int 3)
    rcases List.mem_cons.mp hv with e | hv
    · subst e; exact go (.bool true) (.inr fun ds z => by cases z) (.bl true)
    · cases hv
  -- with the bent tick
  refine ⟨_, rfl, _, rfl, _, rfl, t, us, rfl, sameT hid_sub ht5, fun p1 Ha sa _ hS1 _ => ⟨_, rfl, by show 1 ≤ sizeLine; decide, fun p2 hp2 => ?_⟩⟩
  rw [cut_top] at hS1
  have s2 := same_new (o := .tup [u4]) hp2
  refine ⟨p1, p2, _, [u4], rfl, rfl, sameT s2 hS1, SqT.of upd_same, (by rw [List.length_take]; exact Nat.le_of_lt (small1000 (by show _ + 1 ≤ 1000; omega))), fun p3 Hb sb _ hS3 => ?_⟩
  have s3 := (sa.trans s2).trans sb
  refine ⟨_, rfl, _, rfl, _, _, rfl, rfl, _, rfl, t, us, rfl, sameT s3 (sameT hid_sub ht5), fun p4 Hc sc _ hS4 _ => ?_⟩
  have cd : cutV us (some ((at_ : Int) + 1)) none = us.drop (at_ + 1) := by
    unfold cutV
    rw [show ((at_ : Int) + 1) = ((at_ + 1 : Nat) : Int) by omega, HT.sIx_nat, Nat.min_eq_left (by omega : at_ + 1 ≤ us.length)]
    show (us.drop (at_ + 1)).take (us.length - (at_ + 1)) = _
    rw [← List.length_drop, List.take_length]
  rw [cd] at hS4
  refine ⟨p3, p4, _, _, rfl, rfl, sameT sc hS3, hS4, (by rw [List.length_append, List.length_take, List.length_drop]; exact Nat.le_of_lt (small1000 (by show _ + 1 + _ ≤ 1000; omega))), fun p5 Hd sd _ hS5 => ?_⟩
  have s5 := (s3.trans sc).trans sd
  have Bd := B5.on s5
  obtain ⟨w1, w2, w3, ebd⟩ := id Bd
  have R7 : DpAll K (hid b Hd) us (rows.map rowD) := R5.mono (hid_same (b := b) s5)
  refine q (.ref p5) (.tuple (((rows.take at_).map rowD ++ [d4]) ++ (rows.drop (at_ + 1)).map rowD)) Hd (.inl ⟨_, rfl, by rw [List.length_append, List.length_append, List.length_map, List.length_map, List.length_take, List.length_drop]; show _ + 1 + _ ≤ 30; omega, fun x hx => ?_⟩) (b5.trans' s5) Bd (.tup (SqT.offL hS5 ebd) (((by rw [List.map_take]; exact dpa_take29 R7 at_ : DpAll K (hid b Hd) (us.take at_) ((rows.take at_).map rowD)).append (.cons (D4.mono (hid_same (b := b) s5)) .nil)).append (by rw [List.map_drop]; exact dpa_drop29 R7 (at_ + 1))))
  rcases List.mem_append.mp hx with h | h
  · rcases List.mem_append.mp h with h | h
    · obtain ⟨r, hr, rfl⟩ := List.mem_map.mp h
      exact (hF r (List.mem_of_mem_take hr)).ok
    · rw [List.mem_singleton.mp h]; exact t4
  · obtain ⟨r, hr, rfl⟩ := List.mem_map.mp h
    exact (hF r (List.mem_of_mem_drop hr)).ok
end
end Ts
namespace Ts
open PySem PySem.Spec PyProof.Rows L2
theorem good_sets29 {js : List Job} {n : Nat} : ∀ (rs : List (List Int)) (m : Nat) (had : List Int), goodT js n rs m had → ∀ r ∈ rs, r ∈ setsL js.length n
  | [], _, _, _, _, h => by cases h
  | s :: rs, m, had, g, r, h => by
    obtain ⟨g1, _, g3⟩ := g
    rcases List.mem_cons.mp h with rfl | h
    · exact g1
    · exact good_sets29 rs _ _ g3 r h
theorem set_few29 {m n : Nat} {r : List Int} (hm : m ≤ 3) (h : r ∈ setsL m n) : r.length ≤ 3 ∧ ∀ i ∈ r, 0 ≤ i ∧ i < 3 := by
  obtain ⟨ss, h1, _, rfl⟩ := sets_mem.mp h
  refine ⟨?_, fun i hi => ?_⟩
  · show (List.map _ (posL id ss 0)).length ≤ 3
    rw [List.length_map]
    exact Nat.le_trans (posL_len _ _ _) (by omega)
  · obtain ⟨k, rfl, hk, _⟩ := (posI_mem ss i).mp hi
    omega
theorem bools_fit29 (R : Bool) : (PyData.list [.bool R, .bool R]).showable = true ∧ (PyData.list [.bool R, .bool R]).hasDict = false ∧ (PyData.list [.bool R, .bool R]).depth < 60 ∧ (PyData.list [.bool R, .bool R]).shown.length ≤ sizeLine :=
  (okf_lst (w := 0) (e := 0) (ds := [.bool R, .bool R]) fun d hd => by
    rcases List.mem_cons.mp hd with rfl | hd
    · exact okf_bool
    · rw [List.mem_singleton.mp hd]; exact okf_bool).f.fits (by show (0 + 1) * 2 ≤ 300000; decide) (by decide)
section
variable {P : Program} {w : World} {K : PySem.W.Frag} {mg : Str → Option Value} {base : Heap}
theorem has_right29 {C : Addr} (D : DefAt K mg "_law_right" s__law_right) (B : Blt0 mg) (T : LotC K mg C) (hL : HasM P w K mg base 6 C ["self", "text"] (spInit K C))
    (h_is_table : Has P w K mg base 6 "is_table" ["lot", "value"] (spIsTable K C)) (hq_is_table : HasQ P w K mg base 6 "is_table" ["lot", "value"] ["value", "lot"] back (spIsTable K C))
    (h__law_take : Has P w K mg base 2 "_law_take" ["_law_jar_here", "_law_some"] (spTakeJ K)) (h__law_fitting : Has P w K mg base 4 "_law_fitting" ["_law_jar_here", "_law_most"] (spFitJ K)) (h__law_text : Has P w K mg base 1 "_law_text" ["_law_lot_here"] (spTextJ K)) (h__law_tables : Has P w K mg base 4 "_law_tables" ["_law_lot_here", "_law_most"] (spTablesJ K))
    (h__law_bent : Has P w K mg base 3 "_law_bent" ["_law_jar_here", "_law_rows", "_law_many"] (spBentJ K)) (h__law_is_right : HasG P w K mg base 4 "_law_is_right" ["_law_lot_here", "_law_rows"] (spRightT29 K)) :
    HasG P w K mg base 8 "_law_right" ["_law_jar_here"] spRight := by
  refine D.hasG (fun _ _ _ _ _ _ us hl => match us, hl with | [_], _ => rfl) fun f fd F => fun_g F sc__law_right (fun vs H Q E h => ?_) (fun cdv A outer s H vs Q hg0 hr h => ?_)
  · obtain ⟨b, rfl, _⟩ := h; rfl
  obtain ⟨b, rfl, hB, q⟩ := h
  have hg : (A.deeper (envOfC "_law_right" (defScope s__law_right) s.heap.objs.size f cdv)).guards = some [] := hg0
  refine ⟨_, (pss_cons (ps_set (i := 1) sc__law_right.nd rfl (.inl rfl) (pe_h h__law_fitting (hr.mono (by decide)) (pa_cons (pv 0) (pa_cons pe_int pa_nil))))
      (pss_cons (ps_par (i := 2) (j := 3) (by rfl) sc__law_right.nd rfl rfl (by decide) rfl rfl (pa_cons (pe_hm hL T.mgC (hr.mono (by decide)) (pa_cons (pe_h h__law_text (hr.mono (by decide)) (pa_cons (pv 1) pa_nil)) pa_nil)) (pa_cons (pe_h h__law_tables (hr.mono (by decide)) (pa_cons (pv 1) (pa_cons pe_int pa_nil))) pa_nil)) (by rfl))
      (pss_cons (ps_for PassesOwn.never rfl (pi_range1 (by rfl) B.zrange (pa_cons pe_int pa_nil)) (pg_name (i := 4) sc__law_right.nd rfl (.inl rfl)) (pss_cons (ps_set (i := 5) sc__law_right.nd rfl (.inl rfl) (pe_h h__law_bent (hr.mono (by decide)) (pa_cons (pv 0) (pa_cons (pe_h h__law_take (hr.mono (by decide)) (pa_cons (pv 0) (pa_cons (pv 3) pa_nil))) (pa_cons (pe_callB call_len_seq (by rfl) B.zlen (by decide +kernel) (pa_cons (pe_ix ix_tup (pv 1) pe_int (fun _ _ => rfl)) pa_nil)) pa_nil)))))
      (pss_cons (ps_set (i := 6) sc__law_right.nd rfl (.inl rfl) (pe_g h__law_is_right hg (hr.mono (by decide)) (pa_cons (pv 1) (pa_cons (pv 5) pa_nil))))
      (pss_one (ps_if (pt_cmpR op_ne (pe_callB (reprVK (K := K) rfl hg (hu100 hr)) (by rfl) B.zrepr (by decide +kernel) (pa_cons (pe_lst (pa_cons (pe_h h_is_table (hr.mono (by decide)) (pa_cons (pv 2) (pa_cons (pv 5) pa_nil))) (pa_cons (pe_hq hq_is_table (hr.mono (by decide)) (pk_cons (pv 5) (pk_cons (pv 2) pk_nil))) pa_nil))) pa_nil)) (pe_callB (reprVK (K := K) rfl hg (hu100 hr)) (by rfl) B.zrepr (by decide +kernel) (pa_cons (pe_lst (pa_cons (pv 6) (pa_cons (pv 6) pa_nil))) pa_nil)) (nomark _)) (pss_one (ps_ret pe_bl)) pss_nil)))))
      (pss_one (ps_ret pe_bl))))), ?_⟩
  -- the lot
  refine ⟨_, rfl, b, 3, rfl, hB, by decide, by decide, fun n js p qq H2 n1 n6 l0 l3 G D12 fit b2 B2 fp ep dr => ?_⟩
  have l6 : js.length ≤ 6 := Nat.le_trans l3 (by decide)
  have sp12 := span12_le D12
  have sp0 := span_pos G
  refine ⟨_, rfl, p, qq, n, js, rfl, SqT.of ep, dr.mono hid_sub, G.mono (by decide), by omega, by omega, fun H3 s3 => ?_⟩
  intro x dx hx hdx hnx
  refine ⟨x, dx, n, js, rfl, upd_same, n1, n6, G, l0, l6, fun H4 b4 L4 => ⟨rfl, ?_⟩⟩
  have s24 := s3.trans (lot_same b4 hx hdx)
  have B4 := B2.on s24
  have O4 : Own K C H4 b p qq x n js := ⟨B4, s24 _ _ ep, dr.mono (hid_same s24), by obtain ⟨x1, y1, z1, e⟩ := B4; exact L4.hide e⟩
  have b04 := b2.trans' s24
  clear L4 b4 s3 hx hdx hnx s24 B4 dr ep B2 b2 hB
  -- its first tables
  refine ⟨_, rfl, p, qq, n, 40, js, rfl, SqT.of O4.e, O4.jobs, G, D12, l0, l6, by omega, by decide, by decide, fun l ys sets H5 srt stb hl5 s5 e5 D5 => ?_⟩
  refine ⟨.ref x, .ref l, rfl, ?_⟩
  have O5 := O4.same s5
  have b05 := b04.trans' s5
  have nl : l ≠ b := O4.B.off hl5
  have mem : ∀ s, s ∈ sets ↔ s ∈ setsL js.length n := fun s => stb.perm.mem_iff
  have al : aliveB js (handsL n js) 0 0 = true := by rw [alive_fits G n]; exact decide_eq_true fit
  have some1 := tables_some (js := js) (sets := sets) (most := 40) (by decide) (by
      obtain ⟨h1, _⟩ := alive_zero G mem
      rw [al] at h1
      exact of_decide_eq_true h1.symm)
  have good := tables_good (js := js) (n := n) (most := 40) (sets := sets) (by decide) fun s hs => (mem s).mp hs
  have ly : ys.length = (tablesJ js sets 40).length := by rw [D5.length, List.length_map]
  have ly0 : 0 < ys.length := by
    rw [ly]
    cases z : tablesJ js sets 40 with
    | nil => exact absurd z some1
    | cons a r => exact Nat.zero_lt_succ _
  have ly1 : ys.length ≤ 1000 := by rw [ly]; exact Nat.le_trans (tables_len (by decide)) (by decide)
  obtain ⟨w1, w2, w3, eb5⟩ := id O5.B
  have L5 : SqL K (hid b H5) l ys := SqL.of ((hid_ne nl).trans e5)
  have D5h : DpAll K (hid b H5) ys ((tablesJ js sets 40).map tabD) := DpAll.imp D5 fun d hd => by
    obtain ⟨r, _, rfl⟩ := List.mem_map.mp hd
    exact dp_hideT eb5 (tupD_tab r)
  clear D5 e5 s5 O4 b04 hl5 eb5
  dsimp only [List.set]
  refine ⟨_, rfl, by decide, by decide, for_range (lo := 0) (n := 12) (fun i σ Hm => But b H5 Hm ∧ Bas Hm b ∧ ∃ v4 v5 v6, σ = [some (.ref b), some (.ref p), some (.ref x), some (.ref l), v4, v5, v6]) ⟨fun _ _ _ h => h, O5.B, _, _, _, rfl⟩ ?_ ?_⟩
  · rintro i σ Hm hi ⟨bm, Bm, v4, v5, v6, rfl⟩
    have Om := O5.step bm Bm
    refine ⟨_, rfl, _, rfl, _, rfl, b, l, ys, rfl, Bm, bm.hid.seq L5, ly0, ly1, fun v H6 mv b6 B6 => ?_⟩
    have b56 := bm.trans b6
    have O6 := O5.step b56 B6
    obtain ⟨c, hc⟩ := List.mem_iff_getElem?.mp mv
    obtain ⟨d, hd, hv⟩ := (D5h.mono b56.hid).get hc
    rw [List.getElem?_map] at hd
    obtain ⟨rows, hrows, rfl⟩ : ∃ rows, rows ∈ tablesJ js sets 40 ∧ d = tabD rows := by
      cases z : (tablesJ js sets 40)[c]? with
      | none => rw [z] at hd; cases hd
      | some rows => rw [z] at hd; exact ⟨rows, List.mem_of_getElem? z, (Option.some.inj hd).symm⟩
    obtain ⟨g1, g2⟩ := good rows hrows
    obtain ⟨t, us, rfl, hS, hA⟩ := (show Dp K (hid b H6) v (.tuple (rows.map rowD)) from hv).tuple
    obtain ⟨q2, xs, e2, hJ, hJA⟩ := O6.jobs.list
    cases e2
    have lx : xs.length = js.length := by rw [hJA.length, List.length_map]
    refine ⟨_, rfl, p, _, 1, .ref qq, rfl, rfl, SqT.of O6.e, atI_nat (j := 1) rfl, qq, xs, rfl, .inl hJ, ?_⟩
    rw [lx]
    refine ⟨b, t, us, rows, js.length, rfl, B6, hS, hA, by omega, by omega, fun r hr => set_few29 l3 (good_sets29 rows _ _ g1 r hr), l0, l3, fun vr d H7 hb b7 B7 hd => ?_⟩
    have b57 := b56.trans b7
    have O7 := O5.step b57 B7
    dsimp only [List.set]
    refine ⟨_, rfl, _, rfl, p, qq, n, js, vr, d, rfl, SqT.of O7.e, O7.jobs, hd.mono hid_sub, hb, G, D12, l0, l3, n6, fun H8 s8 => ?_⟩
    have O8 := O7.same s8
    have hd8 : Dp K H8 vr d := (hd.mono hid_sub).mono s8
    generalize eR : keepsB js (List.replicate (spanN js) (n : Int)) (tabO d) = R
    dsimp only [List.set]
    obtain ⟨f1, f2, f3, f4⟩ := bools_fit29 R
    refine ⟨_, rfl, _, rfl, x, vr, n, js, tabO d, rfl, O8.lot, G, l0, l6, by omega, by omega, dp_tabP hd8, fun H9 s9 => ?_⟩
    rw [eR]
    have O9 := O8.same s9
    refine ⟨_, rfl, _, rfl, rfl, x, vr, n, js, tabO d, rfl, O9.lot, G, l0, l6, by omega, by omega, dp_tabP (hd8.mono s9), fun H10 s10 => ?_⟩
    rw [eR]
    refine ⟨by show 2 ≤ sizeLine; decide, fun l1 hl1 => ?_⟩
    have s11 := same_new (o := .lst [V.bl R, .bl R]) hl1
    refine ⟨.ref l1, .list [.bool R, .bool R], rfl, .lst (SqL.of upd_same) (.cons (.bl R) (.cons (.bl R) .nil)), f1, f2, f3, f4, _, rfl, _, rfl, by show 2 ≤ sizeLine; decide, fun l2 hl2 => ?_⟩
    have s12 := same_new (o := .lst [V.bl R, .bl R]) hl2
    refine ⟨.ref l2, .list [.bool R, .bool R], rfl, .lst (SqL.of upd_same) (.cons (.bl R) (.cons (.bl R) .nil)), f1, f2, f3, f4, rfl, _, rfl, ?_⟩
    rw [decide_eq_true rfl]
    have sA := (((s8.trans s9).trans s10).trans s11).trans s12
    exact iteF ⟨b57.trans' sA, B7.on sA, _, _, _, rfl⟩
  · rintro σ Hm ⟨bm, Bm, v4, v5, v6, rfl⟩
    exact q Hm (b05.trans bm)
end
end Ts
namespace Ts
open PySem PySem.Spec PyProof.Rows L2
section
variable {P : Program} {w : World} {K : PySem.W.Frag} {mg : Str → Option Value} {base : Heap}
theorem ok_lawJG {f : Addr} {fd : FuncData} (F : Fun K "law" "law" s_law f fd) (B : Blt0 mg) (h__law_jar : Has P w K mg base 2 "_law_jar" ["_law_cells", "_law_spot"] (spBasin K)) (h__law_right : HasG P w K mg base 8 "_law_right" ["_law_jar_here"] spRight) :
    FnG P w K mg base 9 f fd ["_law_cells"] (spLaw K) := by
  refine fun_g F sc_law (fun vs H Q E h => ?_) (fun cdv A outer s H vs Q hg0 hr h => ?_)
  · obtain ⟨a, ns, rfl, _⟩ := h; rfl
  obtain ⟨a, ns, rfl, hS, hl, q⟩ := h
  have hg : (A.deeper (envOfC "law" (defScope s_law) s.heap.objs.size f cdv)).guards = some [] := hg0
  refine ⟨_, (pss_one (ps_ret (pe_callB (call_allB rfl) (by rfl) B.zall (by decide +kernel) (pa_cons (pe_lc (own := [("_law_k", 1)]) rfl sc_law.nd (pi_range1 (by rfl) B.zrange (pa_cons (pe_callB (call_max2 rfl) (by rfl) B.zmax (by decide +kernel) (pa_cons pe_int (pa_cons (pe_callB (call_min2 rfl) (by rfl) B.zmin (by decide +kernel) (pa_cons (pe_callB call_len_seq (by rfl) B.zlen (by decide +kernel) (pa_cons (pv 0) pa_nil)) (pa_cons pe_int pa_nil))) pa_nil))) pa_nil)) (blkOk_by (N := ["_law_cells", "_law_k"]) (sc := defScope s_law) (own := [("_law_k", 1)]) (by decide +kernel)) (fun _ _ _ _ _ => (pg_name (i := 1) sc_law.nd rfl (.inl rfl) (.inr rfl))) (fun _ _ _ _ _ => pts_nil) (fun _ _ _ _ _ => (pe_g h__law_right hg (hr.mono (by decide)) (pa_cons (pe_h h__law_jar (hr.mono (by decide)) (pa_cons (pv 0) (pa_cons (pv 1) pa_nil))) pa_nil)))) pa_nil)))), ?_⟩
  refine ⟨_, rfl, a, _, rfl, .inl hS, _, _, rfl, _, _, rfl, ?_⟩
  have em : (if (if ((ns.map V.int).length : Int) > (4 : Int) then (4 : Int) else ((ns.map V.int).length : Int)) > (2 : Int) then (if ((ns.map V.int).length : Int) > (4 : Int) then (4 : Int) else ((ns.map V.int).length : Int)) else 2) = ((max 2 (min ns.length 4) : Nat) : Int) := by
    rw [List.length_map]
    split <;> split <;> omega
  refine ⟨_, rfl, ?_⟩
  show _ ∧ _
  rw [em]
  refine ⟨by omega, by omega, fun pl hpl => ?_⟩
  refine lc_range (lo := 0) (n := (((max 2 (min ns.length 4) : Nat) : Int)).toNat) (fun i Hm => Same H Hm ∧ Hm pl = some (.lst ((List.replicate i true).map V.bl))) ⟨same_new hpl, upd_same⟩ ?_ ?_
  · rintro i Hm hi ⟨sm, em⟩
    have ec : (0 : Int) + (i : Int) = (i : Int) := by omega
    rw [ec]
    refine ⟨rfl, yesIf ⟨_, rfl, _, rfl, a, ns, i, rfl, sm.seq hS, hl, by omega, fun b H9 hb s9 hB => ⟨b, rfl, hB, fun Ha b9 => ?_⟩⟩⟩
    have sa : Same Hm Ha := fun c o e => b9 _ _ (ne_of_none e hb) (s9 _ _ e)
    refine ⟨_, sa _ _ em, by rw [List.length_map, List.length_replicate]; exact small1000 (by omega), Same.app hpl (sm.trans sa), ?_⟩
    rw [upd_same, List.replicate_succ', List.map_append]; rfl
  · rintro Hm ⟨sm, em⟩
    refine ⟨pl, _, rfl, SqL.of em, ?_⟩
    have e : (List.replicate (((max 2 (min ns.length 4) : Nat) : Int)).toNat true).all id = true := List.all_eq_true.mpr fun x hx => by rw [List.eq_of_mem_replicate hx]; rfl
    rw [e]
    exact q Hm
end
end Ts
namespace Ts
open PySem PySem.Spec PyProof.Rows L2 L2H LamX
theorem all_mk {l : PySem.W.OpenLaw} {w : World} {K : PySem.W.Frag} {h : Heap} {mg : Str → Option Value} {fa C : Addr} (X : K.In h) (G : h.Ns mainGlobals mg) (hfa : mg "law" = some (.ref fa))
    {f0 : Addr} {od0 an0 : Option Addr} {sl0 : Array (Option Value)} {oc0 kV0 dc0 pm0 cd0 ct0 : Value}
    {f1 : Addr} {od1 an1 : Option Addr} {sl1 : Array (Option Value)} {oc1 kV1 dc1 pm1 cd1 ct1 : Value}
    {f2 : Addr} {od2 an2 : Option Addr} {sl2 : Array (Option Value)} {oc2 kV2 dc2 pm2 cd2 ct2 : Value}
    {f3 : Addr} {od3 an3 : Option Addr} {sl3 : Array (Option Value)} {oc3 kV3 dc3 pm3 cd3 ct3 : Value}
    {f4 : Addr} {od4 an4 : Option Addr} {sl4 : Array (Option Value)} {oc4 kV4 dc4 pm4 cd4 ct4 : Value}
    {f5 : Addr} {od5 an5 : Option Addr} {sl5 : Array (Option Value)} {oc5 kV5 dc5 pm5 cd5 ct5 : Value}
    {f6 : Addr} {od6 an6 : Option Addr} {sl6 : Array (Option Value)} {oc6 kV6 dc6 pm6 cd6 ct6 : Value}
    {f7 : Addr} {od7 an7 : Option Addr} {sl7 : Array (Option Value)} {oc7 kV7 dc7 pm7 cd7 ct7 : Value}
    {f8 : Addr} {od8 an8 : Option Addr} {sl8 : Array (Option Value)} {oc8 kV8 dc8 pm8 cd8 ct8 : Value}
    {f9 : Addr} {od9 an9 : Option Addr} {sl9 : Array (Option Value)} {oc9 kV9 dc9 pm9 cd9 ct9 : Value}
    {f10 : Addr} {od10 an10 : Option Addr} {sl10 : Array (Option Value)} {oc10 kV10 dc10 pm10 cd10 ct10 : Value}
    {f11 : Addr} {od11 an11 : Option Addr} {sl11 : Array (Option Value)} {oc11 kV11 dc11 pm11 cd11 ct11 : Value}
    {f12 : Addr} {od12 an12 : Option Addr} {sl12 : Array (Option Value)} {oc12 kV12 dc12 pm12 cd12 ct12 : Value}
    {f13 : Addr} {od13 an13 : Option Addr} {sl13 : Array (Option Value)} {oc13 kV13 dc13 pm13 cd13 ct13 : Value}
    {f14 : Addr} {od14 an14 : Option Addr} {sl14 : Array (Option Value)} {oc14 kV14 dc14 pm14 cd14 ct14 : Value}
    {f15 : Addr} {od15 an15 : Option Addr} {sl15 : Array (Option Value)} {oc15 kV15 dc15 pm15 cd15 ct15 : Value}
    {f16 : Addr} {od16 an16 : Option Addr} {sl16 : Array (Option Value)} {oc16 kV16 dc16 pm16 cd16 ct16 : Value}
    {f17 : Addr} {od17 an17 : Option Addr} {sl17 : Array (Option Value)} {oc17 kV17 dc17 pm17 cd17 ct17 : Value}
    {f18 : Addr} {od18 an18 : Option Addr} {sl18 : Array (Option Value)} {oc18 kV18 dc18 pm18 cd18 ct18 : Value}
    {f19 : Addr} {od19 an19 : Option Addr} {sl19 : Array (Option Value)} {oc19 kV19 dc19 pm19 cd19 ct19 : Value}
    {f20 : Addr} {od20 an20 : Option Addr} {sl20 : Array (Option Value)} {oc20 kV20 dc20 pm20 cd20 ct20 : Value}
    {f21 : Addr} {od21 an21 : Option Addr} {sl21 : Array (Option Value)} {oc21 kV21 dc21 pm21 cd21 ct21 : Value}
    {f22 : Addr} {od22 an22 : Option Addr} {sl22 : Array (Option Value)} {oc22 kV22 dc22 pm22 cd22 ct22 : Value}
    {f23 : Addr} {od23 an23 : Option Addr} {sl23 : Array (Option Value)} {oc23 kV23 dc23 pm23 cd23 ct23 : Value}
    {f24 : Addr} {od24 an24 : Option Addr} {sl24 : Array (Option Value)} {oc24 kV24 dc24 pm24 cd24 ct24 : Value}
    {f25 : Addr} {od25 an25 : Option Addr} {sl25 : Array (Option Value)} {oc25 kV25 dc25 pm25 cd25 ct25 : Value}
    {f26 : Addr} {od26 an26 : Option Addr} {sl26 : Array (Option Value)} {oc26 kV26 dc26 pm26 cd26 ct26 : Value}
    {f27 : Addr} {od27 an27 : Option Addr} {sl27 : Array (Option Value)} {oc27 kV27 dc27 pm27 cd27 ct27 : Value}
    {f28 : Addr} {od28 an28 : Option Addr} {sl28 : Array (Option Value)} {oc28 kV28 dc28 pm28 cd28 ct28 : Value}
    {f29 : Addr} {od29 an29 : Option Addr} {sl29 : Array (Option Value)} {oc29 kV29 dc29 pm29 cd29 ct29 : Value}
    {f30 : Addr} {od30 an30 : Option Addr} {sl30 : Array (Option Value)} {oc30 kV30 dc30 pm30 cd30 ct30 : Value}
    {f31 : Addr} {od31 an31 : Option Addr} {sl31 : Array (Option Value)} {oc31 kV31 dc31 pm31 cd31 ct31 : Value}
    {f32 : Addr} {od32 an32 : Option Addr} {sl32 : Array (Option Value)} {oc32 kV32 dc32 pm32 cd32 ct32 : Value}
    {f33 : Addr} {od33 an33 : Option Addr} {sl33 : Array (Option Value)} {oc33 kV33 dc33 pm33 cd33 ct33 : Value}
    {f34 : Addr} {od34 an34 : Option Addr} {sl34 : Array (Option Value)} {oc34 kV34 dc34 pm34 cd34 ct34 : Value}
    {f35 : Addr} {od35 an35 : Option Addr} {sl35 : Array (Option Value)} {oc35 kV35 dc35 pm35 cd35 ct35 : Value}
    {f36 : Addr} {od36 an36 : Option Addr} {sl36 : Array (Option Value)} {oc36 kV36 dc36 pm36 cd36 ct36 : Value}
    {fI : Addr} {odI anI : Option Addr} {slI : Array (Option Value)} {ocI kVI dcI pmI cdI ctI : Value}
    {fPshares : Addr} {odPshares anPshares : Option Addr} {slPshares : Array (Option Value)} {ocPshares kVPshares dcPshares pmPshares cdPshares ctPshares : Value} {pPshares : Addr} {rePshares : List Value}
    {fPhands : Addr} {odPhands anPhands : Option Addr} {slPhands : Array (Option Value)} {ocPhands kVPhands dcPhands pmPhands cdPhands ctPhands : Value} {pPhands : Addr} {rePhands : List Value}
    {fPspan : Addr} {odPspan anPspan : Option Addr} {slPspan : Array (Option Value)} {ocPspan kVPspan dcPspan pmPspan cdPspan ctPspan : Value} {pPspan : Addr} {rePspan : List Value}
    {t0 : Tok}
    {t1 : Tok}
    {t2 : Tok}
    {t3 : Tok}
    {t4 : Tok}
    {tMOST_ROUND : Tok}
    (a0 : PySem.W.nsIn K mainGlobals "_law_cell" = some (some (.ref f0)))
    (l0 : K.lookup f0 = some ⟨oc0, od0, .func (PySem.W.fnOf "_law_cell" "_law_cell" (defArgs s__law_cell) (defBody s__law_cell) (defScope s__law_cell) .none kV0 dc0 pm0 an0 cd0 ct0), sl0⟩)
    (c0 : PySem.W.codeIn K cd0 "_law_cell" = true)
    (k0 : PySem.W.keepIn K (.ref f0) = true)
    (a1 : PySem.W.nsIn K mainGlobals "_law_jar" = some (some (.ref f1)))
    (l1 : K.lookup f1 = some ⟨oc1, od1, .func (PySem.W.fnOf "_law_jar" "_law_jar" (defArgs s__law_jar) (defBody s__law_jar) (defScope s__law_jar) .none kV1 dc1 pm1 an1 cd1 ct1), sl1⟩)
    (c1 : PySem.W.codeIn K cd1 "_law_jar" = true)
    (k1 : PySem.W.keepIn K (.ref f1) = true)
    (a2 : PySem.W.nsIn K mainGlobals "_law_dig" = some (some (.ref f2)))
    (l2 : K.lookup f2 = some ⟨oc2, od2, .func (PySem.W.fnOf "_law_dig" "_law_dig" (defArgs s__law_dig) (defBody s__law_dig) (defScope s__law_dig) .none kV2 dc2 pm2 an2 cd2 ct2), sl2⟩)
    (c2 : PySem.W.codeIn K cd2 "_law_dig" = true)
    (k2 : PySem.W.keepIn K (.ref f2) = true)
    (a3 : PySem.W.nsIn K mainGlobals "_law_take" = some (some (.ref f3)))
    (l3 : K.lookup f3 = some ⟨oc3, od3, .func (PySem.W.fnOf "_law_take" "_law_take" (defArgs s__law_take) (defBody s__law_take) (defScope s__law_take) .none kV3 dc3 pm3 an3 cd3 ct3), sl3⟩)
    (c3 : PySem.W.codeIn K cd3 "_law_take" = true)
    (k3 : PySem.W.keepIn K (.ref f3) = true)
    (a4 : PySem.W.nsIn K mainGlobals "_law_lot" = some (some (.ref f4)))
    (l4 : K.lookup f4 = some ⟨oc4, od4, .func (PySem.W.fnOf "_law_lot" "_law_lot" (defArgs s__law_lot) (defBody s__law_lot) (defScope s__law_lot) .none kV4 dc4 pm4 an4 cd4 ct4), sl4⟩)
    (c4 : PySem.W.codeIn K cd4 "_law_lot" = true)
    (k4 : PySem.W.keepIn K (.ref f4) = true)
    (a5 : PySem.W.nsIn K mainGlobals "_law_fitting" = some (some (.ref f5)))
    (l5 : K.lookup f5 = some ⟨oc5, od5, .func (PySem.W.fnOf "_law_fitting" "_law_fitting" (defArgs s__law_fitting) (defBody s__law_fitting) (defScope s__law_fitting) .none kV5 dc5 pm5 an5 cd5 ct5), sl5⟩)
    (c5 : PySem.W.codeIn K cd5 "_law_fitting" = true)
    (k5 : PySem.W.keepIn K (.ref f5) = true)
    (a6 : PySem.W.nsIn K mainGlobals "_law_text" = some (some (.ref f6)))
    (l6 : K.lookup f6 = some ⟨oc6, od6, .func (PySem.W.fnOf "_law_text" "_law_text" (defArgs s__law_text) (defBody s__law_text) (defScope s__law_text) .none kV6 dc6 pm6 an6 cd6 ct6), sl6⟩)
    (c6 : PySem.W.codeIn K cd6 "_law_text" = true)
    (k6 : PySem.W.keepIn K (.ref f6) = true)
    (a7 : PySem.W.nsIn K mainGlobals "_law_span" = some (some (.ref f7)))
    (l7 : K.lookup f7 = some ⟨oc7, od7, .func (PySem.W.fnOf "_law_span" "_law_span" (defArgs s__law_span) (defBody s__law_span) (defScope s__law_span) .none kV7 dc7 pm7 an7 cd7 ct7), sl7⟩)
    (c7 : PySem.W.codeIn K cd7 "_law_span" = true)
    (k7 : PySem.W.keepIn K (.ref f7) = true)
    (a8 : PySem.W.nsIn K mainGlobals "_law_kept" = some (some (.ref f8)))
    (l8 : K.lookup f8 = some ⟨oc8, od8, .func (PySem.W.fnOf "_law_kept" "_law_kept" (defArgs s__law_kept) (defBody s__law_kept) (defScope s__law_kept) .none kV8 dc8 pm8 an8 cd8 ct8), sl8⟩)
    (c8 : PySem.W.codeIn K cd8 "_law_kept" = true)
    (k8 : PySem.W.keepIn K (.ref f8) = true)
    (a9 : PySem.W.nsIn K mainGlobals "_law_near" = some (some (.ref f9)))
    (l9 : K.lookup f9 = some ⟨oc9, od9, .func (PySem.W.fnOf "_law_near" "_law_near" (defArgs s__law_near) (defBody s__law_near) (defScope s__law_near) .none kV9 dc9 pm9 an9 cd9 ct9), sl9⟩)
    (c9 : PySem.W.codeIn K cd9 "_law_near" = true)
    (k9 : PySem.W.keepIn K (.ref f9) = true)
    (a10 : PySem.W.nsIn K mainGlobals "_law_all_at" = some (some (.ref f10)))
    (l10 : K.lookup f10 = some ⟨oc10, od10, .func (PySem.W.fnOf "_law_all_at" "_law_all_at" (defArgs s__law_all_at) (defBody s__law_all_at) (defScope s__law_all_at) .none kV10 dc10 pm10 an10 cd10 ct10), sl10⟩)
    (c10 : PySem.W.codeIn K cd10 "_law_all_at" = true)
    (k10 : PySem.W.keepIn K (.ref f10) = true)
    (a11 : PySem.W.nsIn K mainGlobals "_law_sets" = some (some (.ref f11)))
    (l11 : K.lookup f11 = some ⟨oc11, od11, .func (PySem.W.fnOf "_law_sets" "_law_sets" (defArgs s__law_sets) (defBody s__law_sets) (defScope s__law_sets) .none kV11 dc11 pm11 an11 cd11 ct11), sl11⟩)
    (c11 : PySem.W.codeIn K cd11 "_law_sets" = true)
    (k11 : PySem.W.keepIn K (.ref f11) = true)
    (a12 : PySem.W.nsIn K mainGlobals "_law_plus" = some (some (.ref f12)))
    (l12 : K.lookup f12 = some ⟨oc12, od12, .func (PySem.W.fnOf "_law_plus" "_law_plus" (defArgs s__law_plus) (defBody s__law_plus) (defScope s__law_plus) .none kV12 dc12 pm12 an12 cd12 ct12), sl12⟩)
    (c12 : PySem.W.codeIn K cd12 "_law_plus" = true)
    (k12 : PySem.W.keepIn K (.ref f12) = true)
    (a13 : PySem.W.nsIn K mainGlobals "_law_living" = some (some (.ref f13)))
    (l13 : K.lookup f13 = some ⟨oc13, od13, .func (PySem.W.fnOf "_law_living" "_law_living" (defArgs s__law_living) (defBody s__law_living) (defScope s__law_living) .none kV13 dc13 pm13 an13 cd13 ct13), sl13⟩)
    (c13 : PySem.W.codeIn K cd13 "_law_living" = true)
    (k13 : PySem.W.keepIn K (.ref f13) = true)
    (a14 : PySem.W.nsIn K mainGlobals "_law_is_right" = some (some (.ref f14)))
    (l14 : K.lookup f14 = some ⟨oc14, od14, .func (PySem.W.fnOf "_law_is_right" "_law_is_right" (defArgs s__law_is_right) (defBody s__law_is_right) (defScope s__law_is_right) .none kV14 dc14 pm14 an14 cd14 ct14), sl14⟩)
    (c14 : PySem.W.codeIn K cd14 "_law_is_right" = true)
    (k14 : PySem.W.keepIn K (.ref f14) = true)
    (a15 : PySem.W.nsIn K mainGlobals "_law_tables" = some (some (.ref f15)))
    (l15 : K.lookup f15 = some ⟨oc15, od15, .func (PySem.W.fnOf "_law_tables" "_law_tables" (defArgs s__law_tables) (defBody s__law_tables) (defScope s__law_tables) .none kV15 dc15 pm15 an15 cd15 ct15), sl15⟩)
    (c15 : PySem.W.codeIn K cd15 "_law_tables" = true)
    (k15 : PySem.W.keepIn K (.ref f15) = true)
    (a16 : PySem.W.nsIn K mainGlobals "_law_bent" = some (some (.ref f16)))
    (l16 : K.lookup f16 = some ⟨oc16, od16, .func (PySem.W.fnOf "_law_bent" "_law_bent" (defArgs s__law_bent) (defBody s__law_bent) (defScope s__law_bent) .none kV16 dc16 pm16 an16 cd16 ct16), sl16⟩)
    (c16 : PySem.W.codeIn K cd16 "_law_bent" = true)
    (k16 : PySem.W.keepIn K (.ref f16) = true)
    (a17 : PySem.W.nsIn K mainGlobals "_law_right" = some (some (.ref f17)))
    (l17 : K.lookup f17 = some ⟨oc17, od17, .func (PySem.W.fnOf "_law_right" "_law_right" (defArgs s__law_right) (defBody s__law_right) (defScope s__law_right) .none kV17 dc17 pm17 an17 cd17 ct17), sl17⟩)
    (c17 : PySem.W.codeIn K cd17 "_law_right" = true)
    (k17 : PySem.W.keepIn K (.ref f17) = true)
    (a18 : PySem.W.nsIn K mainGlobals "law" = some (some (.ref f18)))
    (l18 : K.lookup f18 = some ⟨oc18, od18, .func (PySem.W.fnOf "law" "law" (defArgs s_law) (defBody s_law) (defScope s_law) .none kV18 dc18 pm18 an18 cd18 ct18), sl18⟩)
    (c18 : PySem.W.codeIn K cd18 "law" = true)
    (k18 : PySem.W.keepIn K (.ref f18) = true)
    (a19 : PySem.W.nsIn K mainGlobals "is_number" = some (some (.ref f19)))
    (l19 : K.lookup f19 = some ⟨oc19, od19, .func (PySem.W.fnOf "is_number" "is_number" (defArgs s_is_number) (defBody s_is_number) (defScope s_is_number) .none kV19 dc19 pm19 an19 cd19 ct19), sl19⟩)
    (c19 : PySem.W.codeIn K cd19 "is_number" = true)
    (k19 : PySem.W.keepIn K (.ref f19) = true)
    (a20 : PySem.W.nsIn K mainGlobals "is_number_from" = some (some (.ref f20)))
    (l20 : K.lookup f20 = some ⟨oc20, od20, .func (PySem.W.fnOf "is_number_from" "is_number_from" (defArgs s_is_number_from) (defBody s_is_number_from) (defScope s_is_number_from) .none kV20 dc20 pm20 an20 cd20 ct20), sl20⟩)
    (c20 : PySem.W.codeIn K cd20 "is_number_from" = true)
    (k20 : PySem.W.keepIn K (.ref f20) = true)
    (a21 : PySem.W.nsIn K mainGlobals "is_name" = some (some (.ref f21)))
    (l21 : K.lookup f21 = some ⟨oc21, od21, .func (PySem.W.fnOf "is_name" "is_name" (defArgs s_is_name) (defBody s_is_name) (defScope s_is_name) .none kV21 dc21 pm21 an21 cd21 ct21), sl21⟩)
    (c21 : PySem.W.codeIn K cd21 "is_name" = true)
    (k21 : PySem.W.keepIn K (.ref f21) = true)
    (a22 : PySem.W.nsIn K mainGlobals "is_share" = some (some (.ref f22)))
    (l22 : K.lookup f22 = some ⟨oc22, od22, .func (PySem.W.fnOf "is_share" "is_share" (defArgs s_is_share) (defBody s_is_share) (defScope s_is_share) .none kV22 dc22 pm22 an22 cd22 ct22), sl22⟩)
    (c22 : PySem.W.codeIn K cd22 "is_share" = true)
    (k22 : PySem.W.keepIn K (.ref f22) = true)
    (a23 : PySem.W.nsIn K mainGlobals "keeps_all" = some (some (.ref f23)))
    (l23 : K.lookup f23 = some ⟨oc23, od23, .func (PySem.W.fnOf "keeps_all" "keeps_all" (defArgs s_keeps_all) (defBody s_keeps_all) (defScope s_keeps_all) .none kV23 dc23 pm23 an23 cd23 ct23), sl23⟩)
    (c23 : PySem.W.codeIn K cd23 "keeps_all" = true)
    (k23 : PySem.W.keepIn K (.ref f23) = true)
    (a24 : PySem.W.nsIn K mainGlobals "are_kept" = some (some (.ref f24)))
    (l24 : K.lookup f24 = some ⟨oc24, od24, .func (PySem.W.fnOf "are_kept" "are_kept" (defArgs s_are_kept) (defBody s_are_kept) (defScope s_are_kept) .none kV24 dc24 pm24 an24 cd24 ct24), sl24⟩)
    (c24 : PySem.W.codeIn K cd24 "are_kept" = true)
    (k24 : PySem.W.keepIn K (.ref f24) = true)
    (a25 : PySem.W.nsIn K mainGlobals "is_kept" = some (some (.ref f25)))
    (l25 : K.lookup f25 = some ⟨oc25, od25, .func (PySem.W.fnOf "is_kept" "is_kept" (defArgs s_is_kept) (defBody s_is_kept) (defScope s_is_kept) .none kV25 dc25 pm25 an25 cd25 ct25), sl25⟩)
    (c25 : PySem.W.codeIn K cd25 "is_kept" = true)
    (k25 : PySem.W.keepIn K (.ref f25) = true)
    (a26 : PySem.W.nsIn K mainGlobals "_are_members" = some (some (.ref f26)))
    (l26 : K.lookup f26 = some ⟨oc26, od26, .func (PySem.W.fnOf "_are_members" "_are_members" (defArgs s__are_members) (defBody s__are_members) (defScope s__are_members) .none kV26 dc26 pm26 an26 cd26 ct26), sl26⟩)
    (c26 : PySem.W.codeIn K cd26 "_are_members" = true)
    (k26 : PySem.W.keepIn K (.ref f26) = true)
    (a27 : PySem.W.nsIn K mainGlobals "check_lot" = some (some (.ref f27)))
    (l27 : K.lookup f27 = some ⟨oc27, od27, .func (PySem.W.fnOf "check_lot" "check_lot" (defArgs s_check_lot) (defBody s_check_lot) (defScope s_check_lot) .none kV27 dc27 pm27 an27 cd27 ct27), sl27⟩)
    (c27 : PySem.W.codeIn K cd27 "check_lot" = true)
    (k27 : PySem.W.keepIn K (.ref f27) = true)
    (a28 : PySem.W.nsIn K mainGlobals "check_round" = some (some (.ref f28)))
    (l28 : K.lookup f28 = some ⟨oc28, od28, .func (PySem.W.fnOf "check_round" "check_round" (defArgs s_check_round) (defBody s_check_round) (defScope s_check_round) .none kV28 dc28 pm28 an28 cd28 ct28), sl28⟩)
    (c28 : PySem.W.codeIn K cd28 "check_round" = true)
    (k28 : PySem.W.keepIn K (.ref f28) = true)
    (a29 : PySem.W.nsIn K mainGlobals "_read_hands" = some (some (.ref f29)))
    (l29 : K.lookup f29 = some ⟨oc29, od29, .func (PySem.W.fnOf "_read_hands" "_read_hands" (defArgs s__read_hands) (defBody s__read_hands) (defScope s__read_hands) .none kV29 dc29 pm29 an29 cd29 ct29), sl29⟩)
    (c29 : PySem.W.codeIn K cd29 "_read_hands" = true)
    (k29 : PySem.W.keepIn K (.ref f29) = true)
    (a30 : PySem.W.nsIn K mainGlobals "_read_works" = some (some (.ref f30)))
    (l30 : K.lookup f30 = some ⟨oc30, od30, .func (PySem.W.fnOf "_read_works" "_read_works" (defArgs s__read_works) (defBody s__read_works) (defScope s__read_works) .none kV30 dc30 pm30 an30 cd30 ct30), sl30⟩)
    (c30 : PySem.W.codeIn K cd30 "_read_works" = true)
    (k30 : PySem.W.keepIn K (.ref f30) = true)
    (a31 : PySem.W.nsIn K mainGlobals "_read_work" = some (some (.ref f31)))
    (l31 : K.lookup f31 = some ⟨oc31, od31, .func (PySem.W.fnOf "_read_work" "_read_work" (defArgs s__read_work) (defBody s__read_work) (defScope s__read_work) .none kV31 dc31 pm31 an31 cd31 ct31), sl31⟩)
    (c31 : PySem.W.codeIn K cd31 "_read_work" = true)
    (k31 : PySem.W.keepIn K (.ref f31) = true)
    (a32 : PySem.W.nsIn K mainGlobals "_read_number" = some (some (.ref f32)))
    (l32 : K.lookup f32 = some ⟨oc32, od32, .func (PySem.W.fnOf "_read_number" "_read_number" (defArgs s__read_number) (defBody s__read_number) (defScope s__read_number) .none kV32 dc32 pm32 an32 cd32 ct32), sl32⟩)
    (c32 : PySem.W.codeIn K cd32 "_read_number" = true)
    (k32 : PySem.W.keepIn K (.ref f32) = true)
    (a33 : PySem.W.nsIn K mainGlobals "_span_of" = some (some (.ref f33)))
    (l33 : K.lookup f33 = some ⟨oc33, od33, .func (PySem.W.fnOf "_span_of" "_span_of" (defArgs s__span_of) (defBody s__span_of) (defScope s__span_of) .none kV33 dc33 pm33 an33 cd33 ct33), sl33⟩)
    (c33 : PySem.W.codeIn K cd33 "_span_of" = true)
    (k33 : PySem.W.keepIn K (.ref f33) = true)
    (a34 : PySem.W.nsIn K mainGlobals "_total_of" = some (some (.ref f34)))
    (l34 : K.lookup f34 = some ⟨oc34, od34, .func (PySem.W.fnOf "_total_of" "_total_of" (defArgs s__total_of) (defBody s__total_of) (defScope s__total_of) .none kV34 dc34 pm34 an34 cd34 ct34), sl34⟩)
    (c34 : PySem.W.codeIn K cd34 "_total_of" = true)
    (k34 : PySem.W.keepIn K (.ref f34) = true)
    (a35 : PySem.W.nsIn K mainGlobals "is_table" = some (some (.ref f35)))
    (l35 : K.lookup f35 = some ⟨oc35, od35, .func (PySem.W.fnOf "is_table" "is_table" (defArgs s_is_table) (defBody s_is_table) (defScope s_is_table) .none kV35 dc35 pm35 an35 cd35 ct35), sl35⟩)
    (c35 : PySem.W.codeIn K cd35 "is_table" = true)
    (k35 : PySem.W.keepIn K (.ref f35) = true)
    (a36 : PySem.W.nsIn K mainGlobals "is_right" = some (some (.ref f36)))
    (l36 : K.lookup f36 = some ⟨oc36, od36, .func (PySem.W.fnOf "is_right" "is_right" (defArgs s_is_right) (defBody s_is_right) (defScope s_is_right) .none kV36 dc36 pm36 an36 cd36 ct36), sl36⟩)
    (c36 : PySem.W.codeIn K cd36 "is_right" = true)
    (k36 : PySem.W.keepIn K (.ref f36) = true)
    (aC : PySem.W.nsIn K mainGlobals "Lot" = some (some (.ref C)))
    (aI : PySem.W.findIn K (.ref C) "__init__" = some (some (.ref fI)))
    (lI : K.lookup fI = some ⟨ocI, odI, .func (PySem.W.fnOf "__init__" "Lot.__init__" (defArgs s_Lot___init__) (defBody s_Lot___init__) (defScope s_Lot___init__) .none kVI dcI pmI anI cdI ctI), slI⟩)
    (cI : PySem.W.codeIn K cdI "Lot.__init__" = true)
    (kI : PySem.W.keepIn K (.ref fI) = true)
    (iI : PySem.W.isFn K (.ref fI) = true)
    (pg : PySem.W.plainGet K C Str.empty = true)
    (hd : PySem.W.hasDictIn K C = true)
    (po : PySem.W.plainOver K C = true)
    (sa : PySem.W.findIn K (.ref C) "__setattr__" = some (some (.builtin "object.__setattr__")))
    (mk : PySem.W.makesIn K C = true)
    (kc : PySem.W.keepIn K (.ref C) = true)
    (ca : PySem.W.findIn K (.ref C) "__class__" = some (some (.builtin "object.__class__")))
    (cb : PySem.W.specialIn K (.builtin "object.__class__") "__get__" = some (some (.builtin "getset_descriptor.__get__")))
    (cc : PySem.W.takesIn K (.builtin "object.__class__") = some true)
    (cm : PySem.W.mroIn K C (.type "object") = some true)
    (n0 : PySem.W.findIn K (.ref C) "_text" = some none)
    (n1 : PySem.W.findIn K (.ref C) "_hands" = some none)
    (n2 : PySem.W.findIn K (.ref C) "_names" = some none)
    (n3 : PySem.W.findIn K (.ref C) "_shares" = some none)
    (n4 : PySem.W.findIn K (.ref C) "_span" = some none)
    (n5 : PySem.W.findIn K (.ref C) "_total" = some none)
    (atPshares : PySem.W.findIn K (.ref C) "shares" = some (some (.ref pPshares)))
    (rePshares_ : PySem.W.recIn K pPshares "property" = some (.ref fPshares :: rePshares))
    (gePshares : PySem.W.specialIn K (.ref pPshares) "__get__" = some (some (.builtin "property.__get__")))
    (taPshares : PySem.W.takesIn K (.ref pPshares) = some true)
    (lPshares : K.lookup fPshares = some ⟨ocPshares, odPshares, .func (PySem.W.fnOf "shares" "Lot.shares" (defArgs s_Lot_shares) (defBody s_Lot_shares) (defScope s_Lot_shares) .none kVPshares dcPshares pmPshares anPshares cdPshares ctPshares), slPshares⟩)
    (cPshares : PySem.W.codeIn K cdPshares "Lot.shares" = true)
    (kPshares : PySem.W.keepIn K (.ref fPshares) = true)
    (atPhands : PySem.W.findIn K (.ref C) "hands" = some (some (.ref pPhands)))
    (rePhands_ : PySem.W.recIn K pPhands "property" = some (.ref fPhands :: rePhands))
    (gePhands : PySem.W.specialIn K (.ref pPhands) "__get__" = some (some (.builtin "property.__get__")))
    (taPhands : PySem.W.takesIn K (.ref pPhands) = some true)
    (lPhands : K.lookup fPhands = some ⟨ocPhands, odPhands, .func (PySem.W.fnOf "hands" "Lot.hands" (defArgs s_Lot_hands) (defBody s_Lot_hands) (defScope s_Lot_hands) .none kVPhands dcPhands pmPhands anPhands cdPhands ctPhands), slPhands⟩)
    (cPhands : PySem.W.codeIn K cdPhands "Lot.hands" = true)
    (kPhands : PySem.W.keepIn K (.ref fPhands) = true)
    (atPspan : PySem.W.findIn K (.ref C) "span" = some (some (.ref pPspan)))
    (rePspan_ : PySem.W.recIn K pPspan "property" = some (.ref fPspan :: rePspan))
    (gePspan : PySem.W.specialIn K (.ref pPspan) "__get__" = some (some (.builtin "property.__get__")))
    (taPspan : PySem.W.takesIn K (.ref pPspan) = some true)
    (lPspan : K.lookup fPspan = some ⟨ocPspan, odPspan, .func (PySem.W.fnOf "span" "Lot.span" (defArgs s_Lot_span) (defBody s_Lot_span) (defScope s_Lot_span) .none kVPspan dcPspan pmPspan anPspan cdPspan ctPspan), slPspan⟩)
    (cPspan : PySem.W.codeIn K cdPspan "Lot.span" = true)
    (kPspan : PySem.W.keepIn K (.ref fPspan) = true)
    (o0 : PySem.W.nsIn K mainGlobals "MOST_WORKS" = some (some (.int 6 t0)))
    (o1 : PySem.W.nsIn K mainGlobals "MOST_HANDS" = some (some (.int 6 t1)))
    (o2 : PySem.W.nsIn K mainGlobals "MOST_PERIOD" = some (some (.int 16 t2)))
    (o3 : PySem.W.nsIn K mainGlobals "LONGEST_NAME" = some (some (.int 8 t3)))
    (o4 : PySem.W.nsIn K mainGlobals "LETTERS" = some (some (.str (Str.ofString "abcdefghijklmnopqrstuvwxyz") t4)))
    (oMOST_ROUND : PySem.W.nsIn K mainGlobals "MOST_ROUND" = some (some (.int 720 tMOST_ROUND)))
    (zlen : PySem.W.nsIn K mainGlobals "len" = some none)
    (zrange : PySem.W.nsIn K mainGlobals "range" = some none)
    (zabs : PySem.W.nsIn K mainGlobals "abs" = some none)
    (zdivmod : PySem.W.nsIn K mainGlobals "divmod" = some none)
    (zint : PySem.W.nsIn K mainGlobals "int" = some none)
    (zstr : PySem.W.nsIn K mainGlobals "str" = some none)
    (zbool : PySem.W.nsIn K mainGlobals "bool" = some none)
    (zrepr : PySem.W.nsIn K mainGlobals "repr" = some none)
    (zisinstance : PySem.W.nsIn K mainGlobals "isinstance" = some none)
    (ztuple : PySem.W.nsIn K mainGlobals "tuple" = some none)
    (zlist : PySem.W.nsIn K mainGlobals "list" = some none)
    (zdict : PySem.W.nsIn K mainGlobals "dict" = some none)
    (zzip : PySem.W.nsIn K mainGlobals "zip" = some none)
    (zsum : PySem.W.nsIn K mainGlobals "sum" = some none)
    (zall : PySem.W.nsIn K mainGlobals "all" = some none)
    (zmax : PySem.W.nsIn K mainGlobals "max" = some none)
    (zmin : PySem.W.nsIn K mainGlobals "min" = some none)
    (zsorted : PySem.W.nsIn K mainGlobals "sorted" = some none)
    (zset : PySem.W.nsIn K mainGlobals "set" = some none)
    (zenumerate : PySem.W.nsIn K mainGlobals "enumerate" = some none)
    (g_gcd : PySem.W.nsIn K mainGlobals "gcd" = some (some (.builtin "math.gcd")))
    (g_lcm : PySem.W.nsIn K mainGlobals "lcm" = some (some (.builtin "math.lcm")))
    : ∃ fd : FuncData, (∀ (s : Shared) (u : Value), BindsTo s fd ⟨[u], []⟩ [("_law_cells", u)]) ∧ ∀ base : Heap, FnG l.prog w K mg base 9 fa fd ["_law_cells"] (spLaw K) := by
  have D__law_cell : DefAt K mg "_law_cell" s__law_cell := ⟨_, _, fun_mk l0 c0 k0, PySem.W.mg_of X G a0⟩
  have D__law_jar : DefAt K mg "_law_jar" s__law_jar := ⟨_, _, fun_mk l1 c1 k1, PySem.W.mg_of X G a1⟩
  have D__law_dig : DefAt K mg "_law_dig" s__law_dig := ⟨_, _, fun_mk l2 c2 k2, PySem.W.mg_of X G a2⟩
  have D__law_take : DefAt K mg "_law_take" s__law_take := ⟨_, _, fun_mk l3 c3 k3, PySem.W.mg_of X G a3⟩
  have D__law_lot : DefAt K mg "_law_lot" s__law_lot := ⟨_, _, fun_mk l4 c4 k4, PySem.W.mg_of X G a4⟩
  have D__law_fitting : DefAt K mg "_law_fitting" s__law_fitting := ⟨_, _, fun_mk l5 c5 k5, PySem.W.mg_of X G a5⟩
  have D__law_text : DefAt K mg "_law_text" s__law_text := ⟨_, _, fun_mk l6 c6 k6, PySem.W.mg_of X G a6⟩
  have D__law_span : DefAt K mg "_law_span" s__law_span := ⟨_, _, fun_mk l7 c7 k7, PySem.W.mg_of X G a7⟩
  have D__law_kept : DefAt K mg "_law_kept" s__law_kept := ⟨_, _, fun_mk l8 c8 k8, PySem.W.mg_of X G a8⟩
  have D__law_near : DefAt K mg "_law_near" s__law_near := ⟨_, _, fun_mk l9 c9 k9, PySem.W.mg_of X G a9⟩
  have D__law_all_at : DefAt K mg "_law_all_at" s__law_all_at := ⟨_, _, fun_mk l10 c10 k10, PySem.W.mg_of X G a10⟩
  have D__law_sets : DefAt K mg "_law_sets" s__law_sets := ⟨_, _, fun_mk l11 c11 k11, PySem.W.mg_of X G a11⟩
  have D__law_plus : DefAt K mg "_law_plus" s__law_plus := ⟨_, _, fun_mk l12 c12 k12, PySem.W.mg_of X G a12⟩
  have D__law_living : DefAt K mg "_law_living" s__law_living := ⟨_, _, fun_mk l13 c13 k13, PySem.W.mg_of X G a13⟩
  have D__law_is_right : DefAt K mg "_law_is_right" s__law_is_right := ⟨_, _, fun_mk l14 c14 k14, PySem.W.mg_of X G a14⟩
  have D__law_tables : DefAt K mg "_law_tables" s__law_tables := ⟨_, _, fun_mk l15 c15 k15, PySem.W.mg_of X G a15⟩
  have D__law_bent : DefAt K mg "_law_bent" s__law_bent := ⟨_, _, fun_mk l16 c16 k16, PySem.W.mg_of X G a16⟩
  have D__law_right : DefAt K mg "_law_right" s__law_right := ⟨_, _, fun_mk l17 c17 k17, PySem.W.mg_of X G a17⟩
  have D_law : DefAt K mg "law" s_law := ⟨_, _, fun_mk l18 c18 k18, PySem.W.mg_of X G a18⟩
  have D_is_number : DefAt K mg "is_number" s_is_number := ⟨_, _, fun_mk l19 c19 k19, PySem.W.mg_of X G a19⟩
  have D_is_number_from : DefAt K mg "is_number_from" s_is_number_from := ⟨_, _, fun_mk l20 c20 k20, PySem.W.mg_of X G a20⟩
  have D_is_name : DefAt K mg "is_name" s_is_name := ⟨_, _, fun_mk l21 c21 k21, PySem.W.mg_of X G a21⟩
  have D_is_share : DefAt K mg "is_share" s_is_share := ⟨_, _, fun_mk l22 c22 k22, PySem.W.mg_of X G a22⟩
  have D_keeps_all : DefAt K mg "keeps_all" s_keeps_all := ⟨_, _, fun_mk l23 c23 k23, PySem.W.mg_of X G a23⟩
  have D_are_kept : DefAt K mg "are_kept" s_are_kept := ⟨_, _, fun_mk l24 c24 k24, PySem.W.mg_of X G a24⟩
  have D_is_kept : DefAt K mg "is_kept" s_is_kept := ⟨_, _, fun_mk l25 c25 k25, PySem.W.mg_of X G a25⟩
  have D__are_members : DefAt K mg "_are_members" s__are_members := ⟨_, _, fun_mk l26 c26 k26, PySem.W.mg_of X G a26⟩
  have D_check_lot : DefAt K mg "check_lot" s_check_lot := ⟨_, _, fun_mk l27 c27 k27, PySem.W.mg_of X G a27⟩
  have D_check_round : DefAt K mg "check_round" s_check_round := ⟨_, _, fun_mk l28 c28 k28, PySem.W.mg_of X G a28⟩
  have D__read_hands : DefAt K mg "_read_hands" s__read_hands := ⟨_, _, fun_mk l29 c29 k29, PySem.W.mg_of X G a29⟩
  have D__read_works : DefAt K mg "_read_works" s__read_works := ⟨_, _, fun_mk l30 c30 k30, PySem.W.mg_of X G a30⟩
  have D__read_work : DefAt K mg "_read_work" s__read_work := ⟨_, _, fun_mk l31 c31 k31, PySem.W.mg_of X G a31⟩
  have D__read_number : DefAt K mg "_read_number" s__read_number := ⟨_, _, fun_mk l32 c32 k32, PySem.W.mg_of X G a32⟩
  have D__span_of : DefAt K mg "_span_of" s__span_of := ⟨_, _, fun_mk l33 c33 k33, PySem.W.mg_of X G a33⟩
  have D__total_of : DefAt K mg "_total_of" s__total_of := ⟨_, _, fun_mk l34 c34 k34, PySem.W.mg_of X G a34⟩
  have D_is_table : DefAt K mg "is_table" s_is_table := ⟨_, _, fun_mk l35 c35 k35, PySem.W.mg_of X G a35⟩
  have D_is_right : DefAt K mg "is_right" s_is_right := ⟨_, _, fun_mk l36 c36 k36, PySem.W.mg_of X G a36⟩
  have B0 : Blt0 mg := ⟨PySem.W.mg_none_of X G zlen, PySem.W.mg_none_of X G zrange, PySem.W.mg_none_of X G zabs, PySem.W.mg_none_of X G zdivmod, PySem.W.mg_none_of X G zint, PySem.W.mg_none_of X G zstr, PySem.W.mg_none_of X G zbool, PySem.W.mg_none_of X G zrepr, PySem.W.mg_none_of X G zisinstance, PySem.W.mg_none_of X G ztuple, PySem.W.mg_none_of X G zlist, PySem.W.mg_none_of X G zdict, PySem.W.mg_none_of X G zzip, PySem.W.mg_none_of X G zsum, PySem.W.mg_none_of X G zall, PySem.W.mg_none_of X G zmax, PySem.W.mg_none_of X G zmin, PySem.W.mg_none_of X G zsorted, PySem.W.mg_none_of X G zset, PySem.W.mg_none_of X G zenumerate⟩
  have B : Blt mg := ⟨B0, PySem.W.mg_of X G g_gcd, PySem.W.mg_of X G g_lcm⟩
  have C2 : Cst mg := ⟨⟨_, PySem.W.mg_of X G o0⟩, ⟨_, PySem.W.mg_of X G o1⟩, ⟨_, PySem.W.mg_of X G o2⟩, ⟨_, PySem.W.mg_of X G o3⟩, ⟨_, PySem.W.mg_of X G o4⟩⟩
  have T : LotC K mg C := ⟨⟨pg, hd, po, sa⟩, n0, n1, n2, n3, n4, n5, PySem.W.mg_of X G aC⟩
  have I : LotI K C := ⟨ca, cb, cc, cm⟩
  have FI := fun_mk (st := s_Lot___init__) lI cI kI
  have F_shares := fun_mk (st := s_Lot_shares) lPshares cPshares kPshares
  have F_hands := fun_mk (st := s_Lot_hands) lPhands cPhands kPhands
  have F_span := fun_mk (st := s_Lot_span) lPspan cPspan kPspan
  obtain ⟨f, fd, F, hm⟩ := D_law.ex
  cases hfa.symm.trans hm
  refine ⟨fd, ?_, fun base => ?_⟩
  · obtain ⟨oc, od, kV, doc, pm, an, cdv, ct, osl, rfl, lk, hcd⟩ := F.ex
    exact fun s u => .of_eq rfl
  have p_shares : PropH l.prog w K mg base C "shares" "_shares" := prop_mk F_shares sc_Lot_shares rfl T.cl T.n4 ⟨atPshares, gePshares, taPshares, ⟨_, rePshares_⟩⟩ (fun _ _ _ _ _ _ us hl => match us, hl with | [_], _ => rfl)
  have p_hands : PropH l.prog w K mg base C "hands" "_hands" := prop_mk F_hands sc_Lot_hands rfl T.cl T.n2 ⟨atPhands, gePhands, taPhands, ⟨_, rePhands_⟩⟩ (fun _ _ _ _ _ _ us hl => match us, hl with | [_], _ => rfl)
  have p_span : PropH l.prog w K mg base C "span" "_span" := prop_mk F_span sc_Lot_span rfl T.cl T.n5 ⟨atPspan, gePspan, taPspan, ⟨_, rePspan_⟩⟩ (fun _ _ _ _ _ _ us hl => match us, hl with | [_], _ => rfl)
  have MR : ∃ t, mg "MOST_ROUND" = some (.int 720 t) := ⟨_, PySem.W.mg_of X G oMOST_ROUND⟩
  have h_cell := has_cell (P := l.prog) (w := w) (base := base) (K := K) D__law_cell B0
  have h_jar := has_jar (P := l.prog) (w := w) (base := base) (K := K) D__law_jar B0 h_cell
  have h_dig := has_dig (P := l.prog) (w := w) (base := base) (K := K) D__law_dig B0
  have h_take := has_take D__law_take B0 h_dig
  have h_lot := has_lotJ D__law_lot B0 h_dig h_take
  have h_text := has_textJ (P := l.prog) (w := w) (base := base) (K := K) D__law_text B0
  have h_spanJ := has_spanJ (P := l.prog) (w := w) (base := base) (K := K) D__law_span B0
  have h_numf := has_is_number_from (P := l.prog) (w := w) (base := base) D_is_number_from B
  have h_num := has_is_number D_is_number B h_numf
  have h_name := has_is_name (P := l.prog) (w := w) (base := base) D_is_name B C2
  have h_share := has_is_share D_is_share B C2 h_num
  have h_rnum := has_read_number (P := l.prog) (w := w) (base := base) D__read_number B
  have h_rhands := has_read_hands D__read_hands B C2 h_rnum
  have h_rwork := has_read_work D__read_work B C2 h_rnum h_name h_share
  have h_rworks := has_read_works D__read_works B h_rwork
  have h_span := has_span_of (P := l.prog) (w := w) (base := base) D__span_of B
  have h_total := has_total_of (P := l.prog) (w := w) (base := base) D__total_of B
  have hL : HasM l.prog w K mg base 6 C ["self", "text"] (spInit K C) := ⟨_, _, ⟨mk, aI, iI, kc⟩, ok_init FI T B C2 h_rhands h_rworks h_span h_total, FI.binds (ps := ["self", "text"]) fun _ _ _ _ _ _ us hl => match us, hl with | [_, _], _ => rfl⟩
  have h_check := has_check_lot (P := l.prog) (w := w) (base := base) D_check_lot B T I
  have h_crnd := has_check_round D_check_round T MR p_span
  have h_near := has_nearJ (P := l.prog) (w := w) (base := base) (K := K) D__law_near B0
  have h_plus := has_plusJ (P := l.prog) (w := w) (base := base) (K := K) D__law_plus B0
  have h_sets := has_setsJ (P := l.prog) (w := w) (base := base) (K := K) D__law_sets B0
  have h_numfA := has_is_number_fromA (P := l.prog) (w := w) (base := base) D_is_number_from B0
  have h_numA := has_is_numberA D_is_number B0 h_numfA
  have h_ikept := has_is_kept (P := l.prog) (w := w) (base := base) D_is_kept B0
  have h_akept := has_are_kept D_are_kept B0 h_ikept
  have h_amem := has_members D__are_members B0 h_numA
  have h_keeps := has_keeps_all D_keeps_all B0 h_akept h_amem
  have h_isright := has_is_right D_is_right T p_shares p_hands p_span h_keeps
  have h_keptJ := has_keptJ D__law_kept B0 h_near
  have h_all := has_all_atJ D__law_all_at B0 h_near
  have h_livJ := has_livingJ D__law_living B0 h_spanJ h_all h_sets h_plus
  have h_fit := has_fitJ D__law_fitting B0 h_dig h_lot
  have h_tables := has_tablesJ D__law_tables B h_spanJ h_sets h_plus h_livJ
  have h_istable : Has l.prog w K mg base 6 "is_table" ["lot", "value"] (spIsTable K C) := D_is_table.has (fun _ _ _ _ _ _ us hl => match us, hl with | [_, _], _ => rfl) fun f fd F => ok_is_table F h_check h_crnd h_isright
  have q_istable : HasQ l.prog w K mg base 6 "is_table" ["lot", "value"] ["value", "lot"] back (spIsTable K C) := D_is_table.hasQ ["value", "lot"] back vals_back (fun _ _ _ _ _ _ us hl => match us, hl with | [_, _], _ => rfl) fun f fd F => ok_is_table F h_check h_crnd h_isright
  have h_irJ := has_is_right29 D__law_is_right B0 h_spanJ h_sets h_plus h_keptJ
  have h_bent := has_bent29 D__law_bent B0 h_dig h_take
  have h_right := has_right29 D__law_right B0 T hL h_istable q_istable h_take h_fit h_text h_tables h_bent h_irJ
  exact ok_lawJG F B0 h_jar h_right
theorem all_F {l : PySem.W.OpenLaw} {w : World} {K : PySem.W.Frag} {h : Heap} {mg : Str → Option Value} {fa : Addr} (X : K.In h) (G : h.Ns mainGlobals mg) (hfa : mg "law" = some (.ref fa)) (c : SaysF fnF tfF exF h K)
    : ∃ fd : FuncData, (∀ (s : Shared) (u : Value), BindsTo s fd ⟨[u], []⟩ [("_law_cells", u)]) ∧ ∀ base : Heap, FnG l.prog w K mg base 9 fa fd ["_law_cells"] (spLaw K) := by
  have m : exF K = true := c.more
  unfold exF at m
  obtain ⟨m0, m⟩ := He.ba m
  obtain ⟨a0, k0, a1, k1, a2, k2, a3, k3, a4, k4, a5, k5⟩ := of_decide_eq_true m0
  obtain ⟨m1, m⟩ := He.ba m
  obtain ⟨a6, k6, a7, k7, a8, k8, a9, k9, a10, k10, a11, k11⟩ := of_decide_eq_true m1
  obtain ⟨m2, m⟩ := He.ba m
  obtain ⟨a12, k12, a13, k13, a14, k14, a15, k15, a16, k16, a17, k17⟩ := of_decide_eq_true m2
  obtain ⟨m3, m⟩ := He.ba m
  obtain ⟨a18, k18, a19, k19, a20, k20, a21, k21, a22, k22, a23, k23⟩ := of_decide_eq_true m3
  obtain ⟨m4, m⟩ := He.ba m
  obtain ⟨a24, k24, a25, k25, a26, k26, a27, k27, a28, k28, a29, k29⟩ := of_decide_eq_true m4
  obtain ⟨m5, m⟩ := He.ba m
  obtain ⟨a30, k30, a31, k31, a32, k32, a33, k33, a34, k34, a35, k35⟩ := of_decide_eq_true m5
  obtain ⟨m6, m⟩ := He.ba m
  obtain ⟨a36, k36, aC, aI, kI, iI, pg, hd, po, sa, mk, kc⟩ := of_decide_eq_true m6
  obtain ⟨m7, m⟩ := He.ba m
  obtain ⟨ca, cb, cc, cm, n0, n1, n2, n3, n4, n5, atPshares, rePshares_⟩ := of_decide_eq_true m7
  obtain ⟨m8, m⟩ := He.ba m
  obtain ⟨gePshares, taPshares, kPshares, atPhands, rePhands_, gePhands, taPhands, kPhands, atPspan, rePspan_, gePspan, taPspan⟩ := of_decide_eq_true m8
  obtain ⟨m9, m⟩ := He.ba m
  obtain ⟨kPspan, o0, o1, o2, o3, o4, oMOST_ROUND, zlen, zrange, zabs, zdivmod, zint⟩ := of_decide_eq_true m9
  obtain ⟨m10, m⟩ := He.ba m
  obtain ⟨zstr, zbool, zrepr, zisinstance, ztuple, zlist, zdict, zzip, zsum, zall, zmax, zmin⟩ := of_decide_eq_true m10
  have m11 := m
  obtain ⟨zsorted, zset, zenumerate, g_gcd, g_lcm⟩ := of_decide_eq_true m11
  obtain ⟨oc0, od0, sl0, kV0, dc0, pm0, an0, cd0, ct0, l0, c0⟩ := c.def_ 0
  obtain ⟨oc1, od1, sl1, kV1, dc1, pm1, an1, cd1, ct1, l1, c1⟩ := c.def_ 1
  obtain ⟨oc2, od2, sl2, kV2, dc2, pm2, an2, cd2, ct2, l2, c2⟩ := c.def_ 2
  obtain ⟨oc3, od3, sl3, kV3, dc3, pm3, an3, cd3, ct3, l3, c3⟩ := c.def_ 3
  obtain ⟨oc4, od4, sl4, kV4, dc4, pm4, an4, cd4, ct4, l4, c4⟩ := c.def_ 4
  obtain ⟨oc5, od5, sl5, kV5, dc5, pm5, an5, cd5, ct5, l5, c5⟩ := c.def_ 5
  obtain ⟨oc6, od6, sl6, kV6, dc6, pm6, an6, cd6, ct6, l6, c6⟩ := c.def_ 6
  obtain ⟨oc7, od7, sl7, kV7, dc7, pm7, an7, cd7, ct7, l7, c7⟩ := c.def_ 7
  obtain ⟨oc8, od8, sl8, kV8, dc8, pm8, an8, cd8, ct8, l8, c8⟩ := c.def_ 8
  obtain ⟨oc9, od9, sl9, kV9, dc9, pm9, an9, cd9, ct9, l9, c9⟩ := c.def_ 9
  obtain ⟨oc10, od10, sl10, kV10, dc10, pm10, an10, cd10, ct10, l10, c10⟩ := c.def_ 10
  obtain ⟨oc11, od11, sl11, kV11, dc11, pm11, an11, cd11, ct11, l11, c11⟩ := c.def_ 11
  obtain ⟨oc12, od12, sl12, kV12, dc12, pm12, an12, cd12, ct12, l12, c12⟩ := c.def_ 12
  obtain ⟨oc13, od13, sl13, kV13, dc13, pm13, an13, cd13, ct13, l13, c13⟩ := c.def_ 13
  obtain ⟨oc14, od14, sl14, kV14, dc14, pm14, an14, cd14, ct14, l14, c14⟩ := c.def_ 14
  obtain ⟨oc15, od15, sl15, kV15, dc15, pm15, an15, cd15, ct15, l15, c15⟩ := c.def_ 15
  obtain ⟨oc16, od16, sl16, kV16, dc16, pm16, an16, cd16, ct16, l16, c16⟩ := c.def_ 16
  obtain ⟨oc17, od17, sl17, kV17, dc17, pm17, an17, cd17, ct17, l17, c17⟩ := c.def_ 17
  obtain ⟨oc18, od18, sl18, kV18, dc18, pm18, an18, cd18, ct18, l18, c18⟩ := c.def_ 18
  obtain ⟨oc19, od19, sl19, kV19, dc19, pm19, an19, cd19, ct19, l19, c19⟩ := c.def_ 19
  obtain ⟨oc20, od20, sl20, kV20, dc20, pm20, an20, cd20, ct20, l20, c20⟩ := c.def_ 20
  obtain ⟨oc21, od21, sl21, kV21, dc21, pm21, an21, cd21, ct21, l21, c21⟩ := c.def_ 21
  obtain ⟨oc22, od22, sl22, kV22, dc22, pm22, an22, cd22, ct22, l22, c22⟩ := c.def_ 22
  obtain ⟨oc23, od23, sl23, kV23, dc23, pm23, an23, cd23, ct23, l23, c23⟩ := c.def_ 23
  obtain ⟨oc24, od24, sl24, kV24, dc24, pm24, an24, cd24, ct24, l24, c24⟩ := c.def_ 24
  obtain ⟨oc25, od25, sl25, kV25, dc25, pm25, an25, cd25, ct25, l25, c25⟩ := c.def_ 25
  obtain ⟨oc26, od26, sl26, kV26, dc26, pm26, an26, cd26, ct26, l26, c26⟩ := c.def_ 26
  obtain ⟨oc27, od27, sl27, kV27, dc27, pm27, an27, cd27, ct27, l27, c27⟩ := c.def_ 27
  obtain ⟨oc28, od28, sl28, kV28, dc28, pm28, an28, cd28, ct28, l28, c28⟩ := c.def_ 28
  obtain ⟨oc29, od29, sl29, kV29, dc29, pm29, an29, cd29, ct29, l29, c29⟩ := c.def_ 29
  obtain ⟨oc30, od30, sl30, kV30, dc30, pm30, an30, cd30, ct30, l30, c30⟩ := c.def_ 30
  obtain ⟨oc31, od31, sl31, kV31, dc31, pm31, an31, cd31, ct31, l31, c31⟩ := c.def_ 31
  obtain ⟨oc32, od32, sl32, kV32, dc32, pm32, an32, cd32, ct32, l32, c32⟩ := c.def_ 32
  obtain ⟨oc33, od33, sl33, kV33, dc33, pm33, an33, cd33, ct33, l33, c33⟩ := c.def_ 33
  obtain ⟨oc34, od34, sl34, kV34, dc34, pm34, an34, cd34, ct34, l34, c34⟩ := c.def_ 34
  obtain ⟨oc35, od35, sl35, kV35, dc35, pm35, an35, cd35, ct35, l35, c35⟩ := c.def_ 35
  obtain ⟨oc36, od36, sl36, kV36, dc36, pm36, an36, cd36, ct36, l36, c36⟩ := c.def_ 36
  obtain ⟨ocI, odI, slI, kVI, dcI, pmI, anI, cdI, ctI, lI, cI⟩ := c.def_ 37
  obtain ⟨ocPshares, odPshares, slPshares, kVPshares, dcPshares, pmPshares, anPshares, cdPshares, ctPshares, lPshares, cPshares⟩ := c.def_ 38
  obtain ⟨ocPhands, odPhands, slPhands, kVPhands, dcPhands, pmPhands, anPhands, cdPhands, ctPhands, lPhands, cPhands⟩ := c.def_ 39
  obtain ⟨ocPspan, odPspan, slPspan, kVPspan, dcPspan, pmPspan, anPspan, cdPspan, ctPspan, lPspan, cPspan⟩ := c.def_ 40
  exact all_mk X G hfa a0 l0 c0 k0 a1 l1 c1 k1 a2 l2 c2 k2 a3 l3 c3 k3 a4 l4 c4 k4 a5 l5 c5 k5 a6 l6 c6 k6 a7 l7 c7 k7 a8 l8 c8 k8 a9 l9 c9 k9 a10 l10 c10 k10 a11 l11 c11 k11 a12 l12 c12 k12 a13 l13 c13 k13 a14 l14 c14 k14 a15 l15 c15 k15 a16 l16 c16 k16 a17 l17 c17 k17 a18 l18 c18 k18 a19 l19 c19 k19 a20 l20 c20 k20 a21 l21 c21 k21 a22 l22 c22 k22 a23 l23 c23 k23 a24 l24 c24 k24 a25 l25 c25 k25 a26 l26 c26 k26 a27 l27 c27 k27 a28 l28 c28 k28 a29 l29 c29 k29 a30 l30 c30 k30 a31 l31 c31 k31 a32 l32 c32 k32 a33 l33 c33 k33 a34 l34 c34 k34 a35 l35 c35 k35 a36 l36 c36 k36 aC aI lI cI kI iI pg hd po sa mk kc ca cb cc cm n0 n1 n2 n3 n4 n5 atPshares rePshares_ gePshares taPshares lPshares cPshares kPshares atPhands rePhands_ gePhands taPhands lPhands cPhands kPhands atPspan rePspan_ gePspan taPspan lPspan cPspan kPspan o0 o1 o2 o3 o4 oMOST_ROUND zlen zrange zabs zdivmod zint zstr zbool zrepr zisinstance ztuple zlist zdict zzip zsum zall zmax zmin zsorted zset zenumerate g_gcd g_lcm
end Ts
open PySem PySem.W PyProof.Rows
set_option maxRecDepth 100000 in
set_option maxHeartbeats 0 in
theorem PySem.Challenge.cw_tickshares_k29_whole_bent_tables_judged_holds : PySem.Challenge.rw_tickshares_k29_whole_bent_tables_judged.Holds := by
  w_on; o_law
  refine HandSHeadRun.head_imp (r := Ts.rwF) (q := Ts.vwF) (H := Ts.hookF Ts.asF Ts.fnF Ts.tfF Ts.exF) (M := 20000) (loose := Ts.nmF) (d := HandSHeadRun.topDef Ts.rwF.prog 56) (kwd := []) Ts.viewF_eq Ts.runF
    (by kernel_rfl) (by kernel_rfl) (by kernel_rfl) (by rfl) (by first | assumption | decide +kernel) (by decide +kernel) ⟨rfl, rfl, rfl, rfl, rfl, by decide +kernel⟩ ?hw ?hc
  case hw => w_witness2
  case hc =>
    refine Ts.walk_GF (l := PySem.Challenge.rw_tickshares_k29_whole_bent_tables_judged) (k := 9) (x := "_law_cells") rfl (by kernel_rfl) ⟨rfl, by decide, by decide⟩ ?F
    intro w mg fa h Y G hmg
    obtain ⟨K, KX, c⟩ := Y
    have hm : mg ("law" : Str) = some (.ref fa) := by
      have e : (HandSHeadRun.topDef Ts.rwF.prog 56).name = ("law" : Str) := by kernel_rfl
      rw [← e]; exact hmg
    obtain ⟨fd, hb, hF⟩ := Ts.all_F KX G hm c
    exact ⟨K, fd, KX, hb, hF⟩
