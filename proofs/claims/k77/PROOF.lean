import PyProof.Rows.All
import Wide.All
import OpenK.AllK
import Wide.FinOn
import HandS.ForMost
import HandS.ForExc
import HandS.HotCalls
import HandS.ExcInit
import HandS.ExcIs
import HandS.ExcField
import HandS.ExcValue
import HandS.IsInst
import PyProof.ReprRoads
import HandS.OwnEq
import HandS.DictComp
import HandS.Dict
import HandS.Comp
import HandS.TupSets
import HandS.Conv
import KE.GoesEnum
import KE.GoesMore
import HandS.Iter
import HandS.Wide
import HandS.Codes
import HandS.Walk
import HandS.TupAny
import HandS.Flow
import HandS.SortOrd
import HandS.Defaults
import HandS.Style
import HandS.More
import HandS.RaiseMore
import KE.KExcIs
import HandS.Star
import HandS.Strs
import KE.KOpsOwn
import PyProof.ListMulRight
import PyProof.TwoTypes
import HandS.ExcOwn
import HandS.CallSlots
import KE.KDictCopyH
import KE.KDictOf
import OpenK.KMeth
import HandS.Zip
import HandS.SortKw
import KE.KCallOwn
import PyProof.Rows.StrBool
import HandS.List
import KE.GoesZip
import KE.KDictZip
import PyProof.ZipIter
import HandS.Hot
import PyProof.Rows.TupIter
import PyProof.P3Eq
import HandS.ExcCtx
import PyProof.Rows.SortStrRead
import HandS.Deep
import PyProof.P3In
import HandS.Ends
import PySem.Challenge.RW_contentties_k77_bundles_turned
set_option Elab.async false
set_option linter.all false
set_option maxRecDepth 100000
set_option maxHeartbeats 8000000
/-! Contracts of defs where it is known that no repr is under way (guards), calm or within an except suite. -/
namespace Wk
open PySem PySem.Spec PyProof.Rows L2

/-- no repr and the like is under way -/
def Gd (A : Around) : Prop := A.guards = some []
theorem Gd.deeper {A : Around} (g : Gd A) (env : Env) : Gd (A.deeper env) := g
theorem Gd.mark {A : Around} (g : Gd A) (v : Option Value) : Gd (A.mark v) := g

/-- the body's context, calm or not, with pins -/
def cxG (CX : CXT) (P : Program) (w : World) (K : PySem.W.Frag) (mg : Str → Option Value) (base : Heap) (N : List Str) (qual : Str) (scope : Scope) (f : Addr) (cd : Value) (A : Around)
    (outer : List Env) (s : Shared) (H : Hp) (E : XK) (c : Bool) (pn : List (Addr × Obj)) : Cx :=
  { cxOf CX P w K mg base N qual scope f cd A outer s H E with calm := c, pn := pn }

section
variable {CX : CXT} {P : Program} {w : World} {K : PySem.W.Frag} {mg : Str → Option Value} {base : Heap}
/-- one run of a def's body, at one entry -/
theorem body_run {f : Addr} {name qual : Str} {params : Arguments} {body : List Stmt} {scope : Scope} {dV kV doc pm cdv ct oc : Value} {an od : Option Addr} {osl : Array (Option Value)} {N ps : List Str}
    {A : Around} {outer : List Env} {s : Shared} {H : Hp} {args : Args} {us : List Value} {vs : List V} {Q : VK} {E : XK} {c : Bool} {pn : List (Addr × Obj)} {t : TS}
    (lk : K.lookup f = some ⟨oc, od, .func (PySem.W.fnOf name qual params body scope dV kV doc pm an cdv ct), osl⟩) (hcd : PySem.W.codeIn K cdv qual = true) (S : FnScope N ps scope)
    (hdp : A.depth < recursionLimit) (e0 : Env0 P w K mg base A outer s H) (hb : BindsTo s (PySem.W.fnOf name qual params body scope dV kV doc pm an cdv ct) args (ps.zip us))
    (hI : ∀ s1, InCallC s s.heap.objs.size (bindL (envOfC qual scope s.heap.objs.size f cdv).kindOf (ps.zip us) fun _ => none) (cellsFrom (s.heap.objs.size + 1) scope.names [])
      (bindC (envOfC qual scope s.heap.objs.size f cdv).kindOf (ps.zip us) fun _ => none) s1 → Inv (cxG CX P w K mg base N qual scope f cdv A outer s H E c pn) [] (start N vs) H s1)
    (ht : PSs (cxG CX P w K mg base N qual scope f cdv A outer s H E c pn) body t) (hq : t { nx := fun _ H' => Q .non H', rt := Q } (start N vs) H) :
    codeAny (model P w) A (.call (.ref f) args) (CR CX outer P w H s Q E) s := by
  have hin := e0.mod.kin.keeps (fun b o z => (e0.bs b o z).1)
  have hlim := e0.mod.nolimit.keeps (fun b o z => (e0.bs b o z).1)
  have hk : ∀ y ∈ ps.zip us, scope.names.lookup y.1 = some .local ∨
      (scope.names.lookup y.1 = some .cell ∧ ((cellsFrom (s.heap.objs.size + 1) scope.names []).lookup y.1).isSome = true) := by
    rintro ⟨n, v⟩ hy
    have hn := S.par n (List.of_mem_zip hy).1
    exact hn.elim Or.inl (fun q => Or.inr ⟨q, PySem.W.cellsFrom_some _ _ _ (.inl q)⟩)
  refine codeAny_call_function hdp (hin _ _ lk) rfl S.co S.gen rfl (PySem.W.codeRec_of hin hcd) (hb _ _ _ _ ?_)
  refine wpAny_newFunctionEnv_cells S.kind hk (fun env he s1 x => ?_)
  cases he
  refine ⟨hlim.keeps x.toInCall.keep, codeAny_func ?_⟩
  refine wpAny_mono (ht.run [] s1 (start N vs) H _ (hI s1 x) hq) (fun fl s' hs => ?_) (fun e s' hs => hs)
  cases fl with
  | ret u => obtain ⟨v, _, H', J, rv, q⟩ := hs; exact ⟨v, H', J.os, J.bare, J.base, J.hok, rv, q⟩
  | next => obtain ⟨_, H', J, q⟩ := hs; exact ⟨V.non, H', J.os, J.bare, J.base, J.hok, rfl, q⟩
  | brk => obtain ⟨_, _, _, q⟩ := hs; exact q.elim
  | cont => obtain ⟨_, _, _, q⟩ := hs; exact q.elim

/-! ### calm, the guards known -/
structure FnC (P : Program) (w : World) (K : PySem.W.Frag) (mg : Str → Option Value) (base : Heap) (CX : CXT) (k : Nat) (f : Addr) (fd : FuncData) (ps : List Str) (sp : Sp) : Prop where
  len : ∀ vs H Q E, sp vs H Q E → vs.length = ps.length
  run : ∀ (A : Around) (outer : List Env) (s : Shared) (H : Hp) (args : Args) (us : List Value) (vs : List V) (Q : VK) (E : XK), Room k A → Gd A →
    Env0 P w K mg base A outer s H → BindsTo s fd args (ps.zip us) → Vals vs us → sp vs H Q E → codeAny (model P w) A (.call (.ref f) args) (CR CX outer P w H s Q E) s
theorem ofOk {k : Nat} {f : Addr} {fd : FuncData} {ps : List Str} {sp : Sp} (F : FnOk P w K mg base CX k f fd ps sp) : FnC P w K mg base CX k f fd ps sp :=
  ⟨F.len, fun A outer s H args us vs Q E hr _ => F.run A outer s H args us vs Q E hr⟩
theorem okC {x qual : Str} {st : Stmt} {f : Addr} {fd : FuncData} {N ps : List Str} {k : Nat} {sp : Sp} (F : Fun K x qual st f fd) (S : FnScope N ps (defScope st)) (len : ∀ vs H Q E, sp vs H Q E → vs.length = ps.length)
    (hbody : ∀ (cdv : Value) (A : Around) (outer : List Env) (s : Shared) (H : Hp) (vs : List V) (Q : VK) (E : XK), Room k (A.deeper (envOfC qual (defScope st) s.heap.objs.size f cdv)) → Gd A → sp vs H Q E →
      ∃ t, PSs (cxOf CX0 P w K mg base N qual (defScope st) f cdv A outer s H E).nox (defBody st) t ∧ t { nx := fun _ H' => Q .non H', rt := Q } (start N vs) H) :
    FnC P w K mg base CX0 (k + 1) f fd ps sp := by
  obtain ⟨oc, od, kV, doc, pm, an, cdv, ct, osl, rfl, lk, hcd⟩ := F.ex
  refine ⟨len, fun A outer s H args us vs Q E hr hg e0 hb r hsp => ?_⟩
  obtain ⟨t, h, q⟩ := hbody cdv A outer s H vs Q E (hr.deeper _) hg hsp
  exact body_run (c := true) (pn := []) lk hcd S hr.depth e0 hb (fun s1 x => inv_start S hr.hd e0 (len _ _ _ _ hsp) r x) h.nox q
end

section
variable {X : Cx} {k : Nat} {f : Addr} {fd : FuncData} {ps : List Str} {sp : Sp} {x : Str} {p pos : Pos} {e : Expr} {es : List Expr} {t : TA}
theorem run_C {pins : List (Addr × Obj)} {σ : L2.St} {H : Hp} {s : Shared} {Q : VK} {us : List Value} {vs : List V} (F : FnC X.prog X.w X.K X.mg X.base CX0 k f fd ps sp) (hr : Room k X.A) (hg : Gd X.A)
    (hb : Binds X.K fd ps []) (I : Inv X pins σ H s) (r : Vals vs us) (h : sp vs H Q E0) : wpAny (model X.prog X.w) X.A (call (.ref f) us) (EP X pins σ Q) X.xe s := by
  have hl : (us ++ []).length = ps.length := by rw [List.append_nil, ← r.length]; exact F.len _ _ _ _ h
  have b := hb s us I.kIn hl
  rw [List.append_nil] at b
  refine wpAny_call (codeAny_mono (F.run X.A X.stack s H ⟨us, []⟩ us vs Q E0 hr hg I.env0 b r h) (fun res s' hq => ?_))
  match res, hq with
  | .ok (.ret u), hq => exact I.after hq
theorem pe_callC (F : FnC X.prog X.w X.K X.mg X.base CX0 k f fd ps sp) (hr : Room k X.A) (hgd : Gd X.A) (hg : Gl X x) (hm : X.mg x = some (.ref f)) (hk : PySem.W.keepIn X.K (.ref f) = true) (hb : Binds X.K fd ps [])
    (ha : PA X (e :: es) t) (hdb : (x == ("__debug__" : Str)) = false := by decide) (he : starEach (e :: es) X.env = (false, eval e X.env) :: starEach es X.env := by rfl)
    (hpl : (backTo pos (starEach es X.env)).any (·.1) = false := by rfl) : PE X (.Call (.Name x p) (e :: es) [] pos) (tCall sp [] E0 t) := by
  refine ⟨fun pins s σ H Q I h => wpAny_Call_Name_kw (ld_glob I hg hm ?_ hdb)⟩
  refine PySem.W.callWith_K (h₀ := X.base) I.ok.mod.kin hk (thn (ha.run pos pins s σ H _ I h) (fun us s1 hq => ?_)) he hpl
  obtain ⟨vs, H1, I1, r, q⟩ := hq
  rw [List.append_nil] at q
  exact ⟨I1.kIn, run_C F hr hgd hb I1 r q⟩
theorem pe_callC0 (F : FnC X.prog X.w X.K X.mg X.base CX0 k f fd ps sp) (hr : Room k X.A) (hgd : Gd X.A) (hg : Gl X x) (hm : X.mg x = some (.ref f)) (hk : PySem.W.keepIn X.K (.ref f) = true) (hb : Binds X.K fd ps [])
    (hdb : (x == ("__debug__" : Str)) = false := by decide) : PE X (.Call (.Name x p) [] [] pos) (tCall sp [] E0 tNil) := by
  refine ⟨fun pins s σ H Q I h => wpAny_Call_Name_kw (ld_glob I hg hm ?_ hdb)⟩
  exact PySem.W.callWith_K0 I.kIn hk (run_C (us := []) F hr hgd hb I .nil h)
end

/-! ### within an except suite: the exception at a, of the class cls, with the dict d -/
/-- a promise that speaks of the handled exception -/
abbrev SpE := Addr → Value → Option Addr → Sp
structure FnE (P : Program) (w : World) (K : PySem.W.Frag) (mg : Str → Option Value) (base : Heap) (k : Nat) (f : Addr) (fd : FuncData) (ps : List Str) (sp : SpE) : Prop where
  len : ∀ a cls d vs H Q E, sp a cls d vs H Q E → vs.length = ps.length
  run : ∀ (A : Around) (outer : List Env) (s : Shared) (H : Hp) (args : Args) (us : List Value) (vs : List V) (Q : VK) (E : XK) (a : Addr) (oe : Obj) (cls : Value) (d : Option Addr),
    L2H.RoomH k A → Gd A → L2H.Hot1 A (a, oe) → Zc cls d oe → L2H.PinOk outer H s (a, oe) →
    Env0 P w K mg base A outer s H → BindsTo s fd args (ps.zip us) → Vals vs us → sp a cls d vs H Q E → codeAny (model P w) A (.call (.ref f) args) (CR CX0 outer P w H s Q E) s
section
variable {P : Program} {w : World} {K : PySem.W.Frag} {mg : Str → Option Value} {base : Heap}
theorem okE {x qual : Str} {st : Stmt} {f : Addr} {fd : FuncData} {N ps : List Str} {k : Nat} {sp : SpE} (F : Fun K x qual st f fd) (S : FnScope N ps (defScope st)) (len : ∀ a cls d vs H Q E, sp a cls d vs H Q E → vs.length = ps.length)
    (hbody : ∀ (cdv : Value) (A : Around) (outer : List Env) (s : Shared) (H : Hp) (vs : List V) (Q : VK) (E : XK) (a : Addr) (oe : Obj) (cls : Value) (d : Option Addr),
      L2H.RoomH k (A.deeper (envOfC qual (defScope st) s.heap.objs.size f cdv)) → Gd A → L2H.Hot1 A (a, oe) → Zc cls d oe → sp a cls d vs H Q E →
      ∃ t, PSs (L2H.cxH CX0 P w K mg base N qual (defScope st) f cdv A outer s H E (a, oe)).nox (defBody st) t ∧ t { nx := fun _ H' => Q .non H', rt := Q } (start N vs) H) :
    FnE P w K mg base (k + 1) f fd ps sp := by
  obtain ⟨oc, od, kV, doc, pm, an, cdv, ct, osl, rfl, lk, hcd⟩ := F.ex
  refine ⟨len, fun A outer s H args us vs Q E a oe cls d hr hg hot hz hpin e0 hb r hsp => ?_⟩
  obtain ⟨t, h, q⟩ := hbody cdv A outer s H vs Q E a oe cls d (hr.deeper _) hg hot hz hsp
  exact body_run (c := false) (pn := [(a, oe)]) lk hcd S hr.depth e0 hb (fun s1 x => L2H.inv_startH S hpin e0 (len _ _ _ _ _ _ _ hsp) r x) h.nox q
end
section
variable {X : Cx} {k : Nat} {f : Addr} {fd : FuncData} {ps : List Str} {sp : SpE} {x : Str} {p pos : Pos} {e : Expr} {es : List Expr} {t : TA} {a : Addr} {oe : Obj} {cls : Value} {d : Option Addr}
theorem pe_callE (F : FnE X.prog X.w X.K X.mg X.base k f fd ps sp) (hr : L2H.RoomH k X.A) (hgd : Gd X.A) (hot : L2H.Hot1 X.A (a, oe)) (hz : Zc cls d oe) (hp : (a, oe) ∈ X.pn)
    (hg : Gl X x) (hm : X.mg x = some (.ref f)) (hk : PySem.W.keepIn X.K (.ref f) = true) (hb : Binds X.K fd ps [])
    (ha : PA X (e :: es) t) (hdb : (x == ("__debug__" : Str)) = false := by decide) (he : starEach (e :: es) X.env = (false, eval e X.env) :: starEach es X.env := by rfl)
    (hpl : (backTo pos (starEach es X.env)).any (·.1) = false := by rfl) : PE X (.Call (.Name x p) (e :: es) [] pos) (tCall (sp a cls d) [] E0 t) := by
  refine ⟨fun pins s σ H Q I h => wpAny_Call_Name_kw (ld_glob I hg hm ?_ hdb)⟩
  refine PySem.W.callWith_K (h₀ := X.base) I.ok.mod.kin hk (thn (ha.run pos pins s σ H _ I h) (fun us s1 hq => ?_)) he hpl
  obtain ⟨vs, H1, I1, r, q⟩ := hq
  rw [List.append_nil] at q
  refine ⟨I1.kIn, ?_⟩
  have hl : (us ++ []).length = ps.length := by rw [List.append_nil, ← r.length]; exact F.len _ _ _ _ _ _ _ q
  have b := hb s1 us I1.kIn hl
  rw [List.append_nil] at b
  have P1 := I1.pin (a, oe) (List.mem_append_left _ hp)
  have hpin : L2H.PinOk X.stack H1 s1 (a, oe) := ⟨P1.1, P1.2.1, fun hmm => (List.mem_cons.mp (I1.stkSub a hmm)).elim P1.2.2.1 P1.2.2.2.1, P1.2.2.2.2⟩
  refine wpAny_call (codeAny_mono (F.run X.A X.stack s1 H1 ⟨us, []⟩ us vs Q E0 a oe cls d hr hgd hot hz hpin I1.env0 b r q) (fun res s' hq => ?_))
  match res, hq with
  | .ok (.ret u), hq => exact I1.after hq
end

/-! ### the pinned exception: isinstance, its fields -/
section
variable {X : Cx} {a D : Addr} {oe : Obj}
theorem inst_pin {pins : List (Addr × Obj)} {σ : L2.St} {H : Hp} {s : Shared} {d : Option Addr} (I : Inv X pins σ H s) (hp : (a, oe) ∈ X.pn) (hz : Zc (.ref D) d oe) : s.heap.get? a = some oe := (I.pin (a, oe) (List.mem_append_left _ hp)).1
end
end Wk
/-! in, [ ], == and != by a class's own methods. -/
namespace Wk
open PySem PySem.Spec PyProof.Rows L2
section
variable {X : Cx} {CX : CXT} {k : Nat} {C f : Addr} {fd : FuncData} {ps : List Str} {sp : Sp} {E : XK}
theorem dun_call {A : Around} {pins : List (Addr × Obj)} {σ : L2.St} {H : Hp} {s : Shared} {vs : List V} {us : List Value} {Q : VK} (F : FnOk X.prog X.w X.K X.mg X.base CX k f fd ps sp)
    (hA : A.frames = X.A.frames) (hr : Room k A) (hb : Binds X.K fd ps []) (hx : Passes CX X E) (I : Inv X pins σ H s) (rv : Vals vs us) (h : sp vs H Q E) :
    wpAny (model X.prog X.w) A (call (.ref f) us) (EP X pins σ Q) X.xe s := by
  have e0 : Env0 X.prog X.w X.K X.mg X.base A X.stack s H := by
    have e := I.env0
    exact ⟨by rw [hA]; exact e.frames, e.mod, e.bs, e.bsz, e.funs, e.frf, e.hok, e.bare⟩
  have hl := F.len _ _ _ _ h
  refine wpAny_call (codeAny_mono (F.run A X.stack s H ⟨us, []⟩ us vs _ E hr e0 (by
    have := hb s us I.kIn (by rw [List.append_nil, ← rv.length]; exact hl)
    simpa using this) rv h) fun r s' hq => ?_)
  cases r with
  | error e => exact hx pins σ H s e s' I hq
  | ok fl =>
    cases fl with
    | ret w =>
      obtain ⟨z, H', I', rz, q⟩ := I.after hq
      exact ⟨z, H', I', rz, q⟩
    | next => exact False.elim hq
    | brk => exact False.elim hq
    | cont => exact False.elim hq
/-- x in o -/
def rInO (C : Addr) (sp : Sp) (E : XK) : R2 := fun x y H Q => ∃ a dx fs, y = .ref a ∧ H a = some (.ins C dx fs) ∧ sp [.ref a, x] H (fun v H' => ∃ b, v = .bl b ∧ Q (.bl b) H') E
theorem op_inO (F : FnOk X.prog X.w X.K X.mg X.base CX k f fd ps sp) (hr : Room k X.A) (hb : Binds X.K fd ps []) (hx : Passes CX X E)
    (hs : PySem.W.findIn X.K (.ref C) "__contains__" = some (some (.ref f))) (hf : PySem.W.isFn X.K (.ref f) = true) : OpR X (compareOp .In) (rInO C sp E) := by
  intro pins s σ H x y v u Q I rx ry h
  obtain ⟨a, dx, fs, rfl, ha, h⟩ := h
  cases (show u = Value.ref a from ry)
  obtain ⟨mA, J, _⟩ := ins_get I.hok ha
  obtain ⟨od, J, _⟩ := J.look
  obtain ⟨m, hF⟩ := I.fr
  refine PySem.W.in_K hF I.ok.mod.kin J hs hf (wpAny_mono (dun_call F rfl hr hb hx I (.cons (show RelV (.ref a) (.ref a) from rfl) (.cons rx .nil)) h) (fun r s' z => ?_) fun _ _ e => e)
  obtain ⟨z, H', I', rz, b, ez, q⟩ := z
  subst ez
  cases rz
  exact wpAny_truthy_bool ⟨.bl b, H', I', rfl, q⟩
/-- o[i] -/
def rIxO (C : Addr) (sp : Sp) (E : XK) : R2 := fun x y H Q => ∃ a dx fs, x = .ref a ∧ H a = some (.ins C dx fs) ∧ sp [.ref a, y] H Q E
theorem pe_ixO {a b : Expr} {ta tb : TE} {pos : Pos} (F : FnOk X.prog X.w X.K X.mg X.base CX k f fd ps sp) (hr : Room (k + 1) X.A) (hb : Binds X.K fd ps []) (hx : Passes CX X E)
    (hs : PySem.W.findIn X.K (.ref C) "__getitem__" = some (some (.ref f))) (hfn : PySem.W.fnIn X.K f = true) (hf : PySem.W.isFn X.K (.ref f) = true) (ha : PE X a ta) (hb' : PE X b tb)
    (hsl : ∀ o i, subscripted b true o i = runValue (.builtin "lifetime.subscript" ⟨[o, i], []⟩)) : PE X (.Subscript a b pos) (tOp (rIxO C sp E) ta tb) := by
  refine ⟨fun pins s σ H Q I h => ?_⟩
  refine Subscript_ (binT ha hb' I h fun v u s2 x y H2 I2 rx ry q => ?_)
  obtain ⟨p, dx, fs, rfl, hp, q⟩ := q
  cases (show v = Value.ref p from rx)
  obtain ⟨mA, J, _⟩ := ins_get I2.hok hp
  obtain ⟨od, J, _⟩ := J.look
  obtain ⟨m, hF⟩ := I2.fr
  exact PySem.W.sub_K hF I2.ok.mod.kin J hs hfn hf (dun_call F rfl hr.in1 hb hx I2 (.cons (show RelV (.ref p) (.ref p) from rfl) (.cons ry .nil)) q) (hsl _ _)
/-- o == y -/
def rEqO (K : PySem.W.Frag) (C : Addr) (sp : Sp) (E : XK) : R2 := fun x y H Q => ∃ a dx fs t, x = .ref a ∧ H a = some (.ins C dx fs) ∧ TyX K H y t ∧ PySem.W.notFirst K C t = true ∧ sp [.ref a, y] H (fun v H' => ∃ b, v = .bl b ∧ Q (.bl b) H') E
theorem op_eqO (F : FnOk X.prog X.w X.K X.mg X.base CX k f fd ps sp) (hr : Room k X.A) (hb : Binds X.K fd ps []) (hx : Passes CX X E)
    (hs : PySem.W.findIn X.K (.ref C) "__eq__" = some (some (.ref f))) (hf : PySem.W.isFn X.K (.ref f) = true) : OpR X (compareOp .Eq) (rEqO X.K C sp E) := by
  intro pins s σ H x y v u Q I rx ry h
  obtain ⟨a, dx, fs, t, rfl, ha, ty, nf, h⟩ := h
  cases (show v = Value.ref a from rx)
  obtain ⟨mA, J, _⟩ := ins_get I.hok ha
  obtain ⟨od, J, _⟩ := J.look
  obtain ⟨m, hF⟩ := I.fr
  obtain ⟨P, Z, p, _⟩ := kit_of I ry ty
  refine PySem.W.cmp_K (op := .Eq) hr.units0 hF I.ok.mod.kin J (Z.ty _ _ I.kIn p) nf hs hf (wpAny_mono (dun_call F rfl hr hb hx I (.cons (show RelV (.ref a) (.ref a) from rfl) (.cons ry .nil)) h) (fun r s' z => ?_) fun _ _ e => e)
  obtain ⟨z, H', I', rz, b, ez, q⟩ := z
  subst ez
  cases rz
  exact ⟨.bl b, H', I', rfl, q⟩
/-- o != y, by == -/
theorem ne_own {prog : Program} {w : World} {A : Around} {E : Value → Shared → Prop} {s : Shared} {K : PySem.W.Frag} {x C f : Addr} {ox : Obj} {od : Option Obj} {b tb : Value} {Q : Value → Shared → Prop}
    (hu : A.units + 1 < cLine) (X : K.In s.heap) (I : PySem.W.InstAt s.heap x ox C od) (hb : PySem.W.Looks (model prog w) s.heap (typeOf b) tb) (hn : PySem.W.notFirst K C tb = true)
    (hne : PySem.W.findIn K (.ref C) "__ne__" = some (some (.builtin "object.__ne__"))) (hin : PySem.W.mroIn K C (.type "object") = some true) (hs : PySem.W.findIn K (.ref C) "__eq__" = some (some (.ref f))) (hf : PySem.W.isFn K (.ref f) = true)
    (h : wpAny (model prog w) A.in1 (call (.ref f) [.ref x, b]) (fun v s' => ∃ r, v = .bool r ∧ Q (.bool (!r)) s') E s) : wpAny (model prog w) A (richCompare .NotEq (.ref x) b) Q E s := by
  have S := F.cmp_object.ne
  have one : wpAny (model prog w) A (tryCompare (.ref x) "__ne__" b) (fun r s' => ∃ v, r = some v ∧ Q v s') E s := by
    unfold tryCompare
    have inner : wpAny (model prog w) A (call (.builtin "object.__ne__") [.ref x, b]) (fun v s' => ∃ r, v = .bool r ∧ Q (.bool r) s') E s := by
      refine wpAny_call (codeAny_call_builtin S.plain F.cmpEntry_ne (PySem.W.check_slot F.cmpKind_ne F.cmpSplit_ne ?_ (F.cmpArgs_ne _ _) ?_))
      · exact I.type.andThen (PySem.W.looks_mroIn X hin)
      · unfold Builtin.«object.__ne__»
        have hu' : A.in1.units < cLine := Nat.lt_of_le_of_lt (by first | exact Nat.le_refl _ | exact Nat.le_succ _) hu
        repeat (first
          | with_reducible refine wpAny_cRoomFor hu' ?_
          | (refine wpAny_bind (m := callSpecialIfBound? (.ref x) (Str.ofString "__eq__") [b])
              (PySem.W.ifBound_K X I hs hf (wpAny_mono h (fun r s' hr => by
                obtain ⟨b', rfl, hq⟩ := hr
                repeat (first | exact ⟨!b', rfl, hq⟩ | exact wpAny_pure ⟨!b', rfl, hq⟩ | (refine wpAny_bind (m := truthy (.bool _)) (wpAny_truthy_bool ?_)) | wp_step)) fun _ _ e => e)))
          | wp_step)
    refine wpAny_bind ?_
    simp only [callSpecialIfBound?, bindSpecialIfBound?]
    refine wpAny_holding (wpAny_bind (wpAny_bind (wpAny_bind (I.type.here ((PySem.W.looks_findIn X hne).here ?_)))))
    simp only [S.bind]
    refine wpAny_bind (wpAny_askSetting (wpAny_ite ?_))
    have fin : wpAny (model prog w) A (call (.builtin "object.__ne__") ([.ref x] ++ [b]) >>= fun v => pure (some v)) (fun a s₁ => wpAny (model prog w) A (match a with | some .notImplemented | none => pure none | some v => pure (some v)) (fun r s' => ∃ v, r = some v ∧ Q v s') E s₁) E s :=
      wpAny_bind (wpAny_mono inner (fun v s' h' => by obtain ⟨r, rfl, q⟩ := h'; exact wpAny_pure (wpAny_pure ⟨_, rfl, q⟩)) fun _ _ h' => h')
    split
    · exact wpAny_bind (wpAny_pure (wpAny_pure fin))
    · exact wpAny_tryCatch (wpAny_bind (wpAny_pure (wpAny_pure fin)))
  unfold richCompare
  simp only [oneThing_ref]
  refine wpAny_holding (wpAny_bind (wpAny_cRoomFor (Nat.lt_of_succ_lt hu) ?_))
  refine wpAny_bind (I.type.here (wpAny_bind (hb.here ?_)))
  split
  · rename_i q
    have e : PySem.W.subIn K tb (.ref C) = some false := by
      rcases Bool.or_eq_true_iff.mp hn with e | e
      · rw [beq_iff_eq.mp e] at q; simp at q
      · exact beq_iff_eq.mp e
    refine wpAny_bind ((PySem.W.looks_subIn X e).here ?_)
    simp only [Bool.false_eq_true, if_false]
    refine wpAny_bind (wpAny_mono one (fun r s' z => ?_) fun _ _ e => e)
    obtain ⟨v, rfl, hq⟩ := z
    exact wpAny_pure hq
  · refine wpAny_bind (wpAny_pure ?_)
    simp only [Bool.false_eq_true, if_false]
    refine wpAny_bind (wpAny_mono one (fun r s' z => ?_) fun _ _ e => e)
    obtain ⟨v, rfl, hq⟩ := z
    exact wpAny_pure hq
theorem op_neO (F : FnOk X.prog X.w X.K X.mg X.base CX k f fd ps sp) (hr : Room (k + 1) X.A) (hb : Binds X.K fd ps []) (hx : Passes CX X E)
    (hne : PySem.W.findIn X.K (.ref C) "__ne__" = some (some (.builtin "object.__ne__"))) (hin : PySem.W.mroIn X.K C (.type "object") = some true)
    (hs : PySem.W.findIn X.K (.ref C) "__eq__" = some (some (.ref f))) (hf : PySem.W.isFn X.K (.ref f) = true) : OpR X (compareOp .NotEq) (fun x y H Q => rEqO X.K C sp E x y H fun v H' => ∃ b, v = .bl b ∧ Q (.bl (!b)) H') := by
  intro pins s σ H x y v u Q I rx ry h
  obtain ⟨a, dx, fs, t, rfl, ha, ty, nf, h⟩ := h
  cases (show v = Value.ref a from rx)
  obtain ⟨mA, J, _⟩ := ins_get I.hok ha
  obtain ⟨od, J, _⟩ := J.look
  obtain ⟨m, hF⟩ := I.fr
  obtain ⟨P, Z, p, _⟩ := kit_of I ry ty
  refine ne_own (by have := hr.in1.units0; exact this) I.kIn J (Z.ty _ _ I.kIn p) nf hne hin hs hf (wpAny_mono (dun_call F rfl hr.in1 hb hx I (.cons (show RelV (.ref a) (.ref a) from rfl) (.cons ry .nil)) h) (fun r s' z => ?_) fun _ _ e => e)
  obtain ⟨z, H', I', rz, b, ez, b2, eb, q⟩ := z
  subst ez
  cases rz
  cases eb
  exact ⟨b, rfl, .bl (!b), H', I', rfl, q⟩
end
end Wk
/-! A dict comprehension with two clauses, its keys tuples. -/
namespace Wk
open PySem PySem.Spec PyProof.Rows L2
abbrev dcE (kx vx t0 i0 t1 i1 : Expr) (scope : Scope) (pos : Pos) : Expr := .DictComp kx vx [⟨t0, i0, [], 0⟩, ⟨t1, i1, [], 0⟩] scope pos
section
variable {prog : Program} {w : World} {A : Around} {R : Result → Shared → Prop} {s : Shared} {kx vx t0 i0 t1 i1 : Expr} {scope : Scope} {pos : Pos} {it : Value} {D : Addr} {env : Env}
theorem dcOut : compTurn (dcE kx vx t0 i0 t1 i1 scope pos) 0 it (.ref D) env = (do
      standAt i0.pos
      match ← pyNext it with
      | none => pure (.done .next)
      | some v =>
        letOwnedTupleGo t0 it v
        assign t0 env v
        let x ← eval i1 env
        standAt i1.pos
        let x ← foldedSetIterable i1 env x
        let _ ← runOwn (.compStart (dcE kx vx t0 i0 t1 i1 scope pos) 1 (← holding [x] (pyIter x)) (.ref D) env) env
        again (.compLoop (dcE kx vx t0 i0 t1 i1 scope pos) 0 it (.ref D) env)) := by rfl
theorem dcIn : compTurn (dcE kx vx t0 i0 t1 i1 scope pos) 1 it (.ref D) env = (do
      standAt i1.pos
      match ← pyNext it with
      | none => pure (.done .next)
      | some v =>
        letOwnedTupleGo t1 it v
        assign t1 env v
        (do
          let kv ← eval kx env
          let vv ← holding [kv] (eval vx env)
          standAt { kx.pos with endLine := vx.pos.endLine, endCol := vx.pos.endCol }
          holding [kv, vv] (dictSet D kv vv))
        again (.compLoop (dcE kx vx t0 i0 t1 i1 scope pos) 1 it (.ref D) env)) := by rfl
/-- what is wanted where an error leaves the block: here nothing -/
abbrev NoX (prog : Program) (w : World) (A : Around) (env : Env) (R : Result → Shared → Prop) : Value → Shared → Prop := notedBy (model prog w) A env fun e s' => R (.error e) s'
/-- the outer clause's loop -/
theorem dc_outer (hs : ∀ x, foldedSetIterable i1 env x = pure x) (I : Nat → Shared → Prop)
    (stop_go : ∀ n s, I n s → wpAny (model prog w) A (pyNext it) (fun r s₁ => match r with
      | none => R (.ok .next) s₁
      | some v => wpAny (model prog w) A (letOwnedTupleGo t0 it v) (fun _ s₂ => wpAny (model prog w) A (assign t0 env v) (fun _ s₃ =>
          wpAny (model prog w) A (eval i1 env) (fun x s₄ => wpAny (model prog w) A (pyIter x) (fun it1 s₅ =>
            codeAny (model prog w) A (.compStart (dcE kx vx t0 i0 t1 i1 scope pos) 1 it1 (.ref D) env) (fun r s' => match r with
              | .ok _ => ∃ m, m < n ∧ I m s'
              | .error _ => False) s₅) (NoX prog w A env R) s₄) (NoX prog w A env R) s₃) (NoX prog w A env R) s₂) (NoX prog w A env R) s₁) (NoX prog w A env R) s)
    (n : Nat) (h : I n s) : codeAny (model prog w) A (.compLoop (dcE kx vx t0 i0 t1 i1 scope pos) 0 it (.ref D) env) R s := by
  refine codeAny_loop rfl I (fun n s hI => ?_) n h
  show wpAny _ A ((compTurn (dcE kx vx t0 i0 t1 i1 scope pos) 0 it (.ref D) env).onRaise (fun x => do noteFrame x env; theTreesLotGoes x)) _ _ s
  refine wpAny_noted ?_
  rw [dcOut]
  refine wpAny_bind (wpAny_standAt (wpAny_bind (wpAny_mono (stop_go n s hI) (fun r s₁ h₁ => ?_) fun _ _ z => z)))
  cases r with
  | none => exact wpAny_pure h₁
  | some v =>
    refine wpAny_bind (wpAny_mono h₁ (fun _ s₂ h₂ => wpAny_bind (wpAny_mono h₂ (fun _ s₃ h₃ => wpAny_bind (wpAny_mono h₃ (fun x s₄ h₄ => ?_) fun _ _ z => z)) fun _ _ z => z)) fun _ _ z => z)
    refine wpAny_bind (wpAny_standAt (wpAny_bind (wpAny_of_eq (hs x) (wpAny_bind (wpAny_holding (wpAny_mono h₄ (fun it1 s₅ h₅ => ?_) fun _ _ z => z))))))
    refine wpAny_bind (wpAny_runOwn ?_)
    rw [Around.mark_none]
    refine codeAny_mono h₅ fun r s' hr => ?_
    cases r with
    | ok f => first
      | exact wpAny_pure ⟨rfl, hr⟩
      | exact wpAny_bind (wpAny_pure (wpAny_pure ⟨rfl, hr⟩))
    | error e => exact hr.elim
/-- the inner clause's loop -/
theorem dc_inner (I : Nat → Shared → Prop)
    (stop_go : ∀ n s, I n s → wpAny (model prog w) A (pyNext it) (fun r s₁ => match r with
      | none => R (.ok .next) s₁
      | some v => wpAny (model prog w) A (letOwnedTupleGo t1 it v) (fun _ s₂ => wpAny (model prog w) A (assign t1 env v) (fun _ s₃ =>
          wpAny (model prog w) A (eval kx env) (fun kv s₄ => wpAny (model prog w) A (eval vx env) (fun vv s₅ =>
            wpAny (model prog w) A (dictSet D kv vv) (fun _ s₆ => ∃ m, m < n ∧ I m s₆) (NoX prog w A env R) s₅) (NoX prog w A env R) s₄) (NoX prog w A env R) s₃) (NoX prog w A env R) s₂) (NoX prog w A env R) s₁) (NoX prog w A env R) s)
    (n : Nat) (h : I n s) : codeAny (model prog w) A (.compLoop (dcE kx vx t0 i0 t1 i1 scope pos) 1 it (.ref D) env) R s := by
  refine codeAny_loop rfl I (fun n s hI => ?_) n h
  show wpAny _ A ((compTurn (dcE kx vx t0 i0 t1 i1 scope pos) 1 it (.ref D) env).onRaise (fun x => do noteFrame x env; theTreesLotGoes x)) _ _ s
  refine wpAny_noted ?_
  rw [dcIn]
  refine wpAny_bind (wpAny_standAt (wpAny_bind (wpAny_mono (stop_go n s hI) (fun r s₁ h₁ => ?_) fun _ _ z => z)))
  cases r with
  | none => exact wpAny_pure h₁
  | some v =>
    refine wpAny_bind (wpAny_mono h₁ (fun _ s₂ h₂ => wpAny_bind (wpAny_mono h₂ (fun _ s₃ h₃ => ?_) fun _ _ z => z)) fun _ _ z => z)
    exact wpAny_bind (wpAny_bind (wpAny_mono h₃ (fun kv s₄ h₄ => wpAny_bind (wpAny_holding (wpAny_mono h₄ (fun vv s₅ h₅ => wpAny_bind (wpAny_standAt (wpAny_holding (wpAny_mono h₅ (fun _ s₆ h₆ => wpAny_pure ⟨rfl, h₆⟩) fun _ _ z => z)))) fun _ _ z => z))) fun _ _ z => z))
/-- the inner clause's start -/
theorem dc_start1 (h0 : codeAny (model prog w) A (.compLoop (dcE kx vx t0 i0 t1 i1 scope pos) 1 it (.ref D) env) R s)
    (h : wpAny (model prog w) A (pyIter it) (fun it' s' => codeAny (model prog w) A (.compLoop (dcE kx vx t0 i0 t1 i1 scope pos) 1 it' (.ref D) env) R s') (NoX prog w A env R) s) :
    codeAny (model prog w) A (.compStart (dcE kx vx t0 i0 t1 i1 scope pos) 1 it (.ref D) env) R s := by
  refine codeAny_of_tree ?_
  show wpAny _ _ ((compStart (dcE kx vx t0 i0 t1 i1 scope pos) 1 it (.ref D) env).onRaise (fun x => do noteFrame x env; standAt theWindowsPlace)) _ _ s
  refine wpAny_notedAt ?_
  unfold compStart
  show wpAny _ _ (ask >>= _) _ _ s
  refine wpAny_bind (wpAny_askSetting (wpAny_ite ?_))
  split
  · first
      | exact wpAny_pure ⟨rfl, h0⟩
      | exact wpAny_bind (wpAny_pure (wpAny_pure ⟨rfl, h0⟩))
  · refine wpAny_bind (wpAny_rule ?_)
    show wpAny _ _ (standAt i1.pos >>= _) _ _ s
    exact wpAny_bind (wpAny_standAt (wpAny_bind (wpAny_mono h (fun it' s' h' => wpAny_pure ⟨rfl, h'⟩) fun _ _ z => z)))
end
/-- d[(..)] = v of a dict with tuple keys, as a comprehension does it -/
theorem dt_put {X : Cx} {pins : List (Addr × Obj)} {σ : L2.St} {H : Hp} {s : Shared} {E : Value → Shared → Prop} {D b : Addr} {kvs : List (List Key × V)} {k : List Key} {v : V} {r : Value} {Q : Unit → Shared → Prop} (hu : X.A.units < cLine) (I : Inv X pins σ H s)
    (hD : H D = some (.dT kvs)) (hb : H b = some (.tup (k.map kV))) (hz : kvs.length < sizeLine) (rv : RelV v r) (h : ∀ s', Inv X pins σ (upd H D (.dT (putK kvs k v))) s' → Q () s') : wpAny (model X.prog X.w) X.A (dictSet D (.ref b) r) Q E s := by
  obtain ⟨z, hd, xs, rel, dd⟩ := dt_of I.hok hD
  have hl : (putK kvs k v).length ≤ sizeLine := Nat.le_trans (length_putK kvs k v) hz
  refine wpAny_dictSet_heap (hsz := by rw [← Paired.length rel]; exact z) (show (tupleKind (mixKind X.prog X.w)).room X.A from hu) (key_of I.hok hb) dd fun h' dd' hs => h _ ?_
  obtain ⟨q, es, ep, hq, h2, h3, h4, _, h5⟩ := dd'
  exact d_write I (by rw [hD]; exact True.intro) hs ⟨q, hq⟩ ⟨hl, hd, _, (rel.put k hb rv).keeps (fun c ys ec => (upd_ne (ne_of ec hD (fun z => nomatch z))).trans ec), q, es, ep, hq, h2, h3, h4, h5⟩
end Wk
/-! The rule of a dict comprehension with two clauses. -/
namespace Wk
open PySem PySem.Spec PyProof.Rows L2
section
variable {X : Cx}
/-- the inner clause's reading, from slots σ2: Nx is what the outer loop wants behind it -/
def tDcIn (wi1 : TI) (g1 : TG) (tk tv : TE) (vs1 : List Nat) (D : Addr) (Nx : Hp → Prop) (σ2 : L2.St) (H2 : Hp) : Prop := wi1 σ2 H2 fun J1 H4 => ∃ W1 : Nat → Nat → Hp → Prop, (∃ m, W1 0 m H4) ∧ ∀ j k H, W1 j k H →
  (J1.stop j H ∧ Nx H) ∨ (J1.go j H ∧ ∃ Nx1 : Hp → Prop, (∀ H', Nx1 H' → ∃ k', k' < k ∧ W1 (j + 1) k' H') ∧ ∀ x H', J1.yld j H x H' → g1 x (wipe σ2 vs1) H' fun σ3 H5 => wipe σ3 vs1 = wipe σ2 vs1 ∧
    tk σ3 H5 fun y H6 => tv σ3 H6 fun z H7 => ∃ (kvs : List (List Key × V)) (q : List Key) (b : Addr), y = .ref b ∧ H7 b = some (.tup (q.map kV)) ∧ H7 D = some (.dT kvs) ∧ kvs.length < sizeLine ∧ Nx1 (upd H7 D (.dT (putK kvs q z))))
def tDc2 (wi : TI) (g : TG) (wi1 : TI) (g1 : TG) (tk tv : TE) (vs vs1 : List Nat) : TE := fun σ H Q => wi σ H fun J H1 => ∀ D, H1 D = none → ∃ W : Nat → Nat → Hp → Prop, (∃ m, W 0 m (upd H1 D (.dT []))) ∧ ∀ i m H, W i m H →
  (J.stop i H ∧ Q (.ref D) H) ∨ (J.go i H ∧ ∃ Nx : Hp → Prop, (∀ H', Nx H' → ∃ m', m' < m ∧ W (i + 1) m' H') ∧ ∀ x H', J.yld i H x H' → g x (wipe σ vs) H' fun σ2 H2 => wipe σ2 vs = wipe σ vs ∧ tDcIn wi1 g1 tk tv vs1 D Nx σ2 H2)
theorem pe_dc2 {kx vx tg iter tg1 iter1 : Expr} {scope : Scope} {own : List (Str × Nat)} {vs1 : List Nat} {pos : Pos} {wi wi1 : TI} {g g1 : TG} {tk tv : TE} (hc : X.calm = true) (hu : X.A.units < cLine) (hN : X.N.Nodup) (hi : PI X tg iter wi) (ok : BlkOk X.N X.env.scope scope own) (hv : ∀ i ∈ vs1, i ∈ own.map (·.2))
    (hg : ∀ (s : Shared) (H : Hp) (C : Addr) (cl : List (Str × Addr)) (fp : List Addr), PG (X.blk s H scope (compEnvC scope cl C X.env) fp) tg g)
    (hi1 : ∀ (s : Shared) (H : Hp) (C : Addr) (cl : List (Str × Addr)) (fp : List Addr), PI (X.blk s H scope (compEnvC scope cl C X.env) fp) tg1 iter1 wi1)
    (hg1 : ∀ (s : Shared) (H : Hp) (C : Addr) (cl : List (Str × Addr)) (fp : List Addr), PG (X.blk s H scope (compEnvC scope cl C X.env) fp) tg1 g1)
    (hk : ∀ (s : Shared) (H : Hp) (C : Addr) (cl : List (Str × Addr)) (fp : List Addr), PE (X.blk s H scope (compEnvC scope cl C X.env) fp) kx tk)
    (he : ∀ (s : Shared) (H : Hp) (C : Addr) (cl : List (Str × Addr)) (fp : List Addr), PE (X.blk s H scope (compEnvC scope cl C X.env) fp) vx tv)
    (hs : ∀ x, foldedSetIterable iter X.env x = pure x := by intro _; rfl) (hs1 : ∀ env x, foldedSetIterable iter1 env x = pure x := by intro _ _; rfl) :
    PE X (dcE kx vx tg iter tg1 iter1 scope pos) (tDc2 wi g wi1 g1 tk tv (own.map (·.2)) vs1) := by
  refine ⟨fun pins s σ H Q I h => ?_⟩
  unfold dcE
  rw [arm_eval_DictComp]
  have hfree : ∀ y ∈ scope.names, y.2 = .free → ∃ c, X.env.cells.lookup y.1 = some c := fun y hy e => by
    rcases ok.free y hy e with z | z <;> exact I.ok.has _ (by first | exact .inl z | exact .inr z)
  refine wpAny_comprehension_free (use := none) rfl hs (closure_ok hfree) ok.kind (fun y hy e => by rw [ok.uniq y hy, e])
    (thn (hi.run pins s σ H _ I h) fun xv s1 hx => thn hx fun itv s2 h2 => ?_)
  obtain ⟨it, fp, tn, J, H2, e, I2, T, st2, f2, q⟩ := h2
  subst e
  refine wpAny_newObj_type (newEnv_comp ?_)
  -- the new dict at D
  generalize hD : s2.heap.objs.size = D
  have hDn : H2 D = none := I2.hok.fresh (Nat.le_of_eq hD)
  obtain ⟨W, ⟨m0, w0⟩, turn⟩ := q D hDn
  generalize hs3 : ({ s2 with heap := s2.heap.push { cls := .type "dict", data := .dict #[] } } : Shared) = s3
  have h3 : s3.heap = s2.heap.push { cls := .type "dict", data := .dict #[] } := by rw [← hs3]
  have I3 : Inv X pins σ (upd H2 D (.dT [])) s3 := by
    rw [← hs3]
    refine I2.laid (t' := s2.toks) (fun b o e => Heap.get?_push_of_some _ e) (Nat.le_of_eq hD) ?_
    rw [← hD]
    exact dt_empty s2.heap I2.big
  have f3 : ∀ b ∈ fp, FpOk X pins (upd H2 D (.dT [])) b ∧ b < s3.heap.objs.size := fun b hb => by
    obtain ⟨o, e, _⟩ := T.obj _ _ st2 b hb
    have hlt := Heap.lt_size e
    exact ⟨⟨(upd_ne (by rw [← hD]; exact Nat.ne_of_lt hlt)).trans (f2 b hb).1, (f2 b hb).2⟩, by rw [h3, Heap.size_push]; exact Nat.lt_succ_of_lt hlt⟩
  have st3 : tn 0 s3.heap := T.keep _ _ _ st2 fun b _ o e => by rw [h3]; exact Heap.get?_push_of_some _ e
  have I4 := block_start I3 ok hN f3
  have pg := hg s3 (upd H2 D (.dT [])) s3.heap.objs.size (cellsFrom (s3.heap.objs.size + 1) scope.names (cloFrom X.env.cells scope.names [])) fp
  have pi1 := hi1 s3 (upd H2 D (.dT [])) s3.heap.objs.size (cellsFrom (s3.heap.objs.size + 1) scope.names (cloFrom X.env.cells scope.names [])) fp
  have pg1 := hg1 s3 (upd H2 D (.dT [])) s3.heap.objs.size (cellsFrom (s3.heap.objs.size + 1) scope.names (cloFrom X.env.cells scope.names [])) fp
  have pk := hk s3 (upd H2 D (.dT [])) s3.heap.objs.size (cellsFrom (s3.heap.objs.size + 1) scope.names (cloFrom X.env.cells scope.names [])) fp
  have pe := he s3 (upd H2 D (.dT [])) s3.heap.objs.size (cellsFrom (s3.heap.objs.size + 1) scope.names (cloFrom X.env.cells scope.names [])) fp
  show codeAny _ _ (.compStart (dcE kx vx tg iter tg1 iter1 scope pos) 0 (.ref it) (.ref D) (compEnvC scope (cellsFrom (s3.heap.objs.size + 1) scope.names (cloFrom X.env.cells scope.names [])) s3.heap.objs.size X.env)) (compPost (model X.prog X.w) X.A X.xe none (EP X pins σ Q) (.ref D) s3.heap.objs.size) { s3 with heap := pushCells (s3.heap.push { cls := .type "dict", data := .dict #[] }) scope.names }
  have nfp : ∀ b ∈ fp, (upd H2 D (.dT [])) b = none := fun b hb => (f3 b hb).1.1
  generalize hce : compEnvC scope (cellsFrom (s3.heap.objs.size + 1) scope.names (cloFrom X.env.cells scope.names [])) s3.heap.objs.size X.env = ce at I4 pg pi1 pg1 pk pe ⊢
  have cL : ce.locals = s3.heap.objs.size := by rw [← hce]; rfl
  generalize hH3 : upd H2 D (.dT []) = H3 at I3 I4 pg pi1 pg1 pk pe w0 nfp f3
  generalize hs4 : ({ s3 with heap := pushCells (s3.heap.push { cls := .type "dict", data := .dict #[] }) scope.names } : Shared) = s4 at I4 ⊢
  have st4 : tn 0 s4.heap := T.keep _ _ _ st3 fun b _ o e => by rw [← hs4]; exact pushCells_keeps _ _ _ _ (Heap.get?_push_of_some _ e)
  have loop : codeAny (model X.prog X.w) X.A (.compLoop (dcE kx vx tg iter tg1 iter1 scope pos) 0 (.ref it) (.ref D) ce) (compPost (model X.prog X.w) X.A X.xe none (EP X pins σ Q) (.ref D) s3.heap.objs.size) s4 := by
    -- the outer iterator's objects stand still
    have still : ∀ {σ' : L2.St} {H' : Hp} {s' : Shared}, Inv (X.blk s3 H3 scope ce fp) [] σ' H' s' → (∀ b ∈ fp, H' b = none) → ∀ b ∈ fp, FpOk (X.blk s3 H3 scope ce fp) [] H' b := fun {σ' H' s'} I' hn b hb =>
      ⟨hn b hb, (I'.ok.exf b hb).1, I'.ok.exfs b hb, .inl hb, fun x c e => (I'.ok.exf b hb).2 x c e, fun p hp => absurd (show p ∈ ([] : List (Addr × Obj)) ++ [] from hp) (by simp)⟩
    refine dc_outer (hs1 ce) (fun n s' => ∃ i H', Inv (X.blk s3 H3 scope ce fp) [] (wipe σ (own.map (·.2))) H' s' ∧ tn i s'.heap ∧ (∀ b ∈ fp, H' b = none) ∧ W i n H') ?_ m0 ⟨0, H3, I4, st4, nfp, w0⟩
    rintro n s5 ⟨i, H5, I5, st5, n5, w5⟩
    rcases turn i n H5 w5 with ⟨stop, qq⟩ | ⟨go, Nx, hNx, step⟩
    · refine thnF (T.done (X.blk s3 H3 scope ce fp) rfl rfl rfl hc i [] s5 _ H5 (fun _ _ => False) I5 (still I5 n5) st5 stop) fun r s6 ⟨hr, I6⟩ => ?_
      subst hr
      have I7 : Inv X pins σ H5 s6 := I3.call' (ch := fp) I6.os I6.base I6.hok I6.bare fun b hb => ⟨(f3 b hb).1.2.2.2.1, (f3 b hb).1.2.1, (f3 b hb).1.2.2.2.2.1, (f3 b hb).1.2.2.2.2.2⟩
      have nC : H5 s3.heap.objs.size = none := cL ▸ (show H5 ce.locals = none from I6.free)
      obtain ⟨m, hn, _⟩ := I6.loc
      have hn : s6.heap.Ns s3.heap.objs.size m := cL ▸ (show s6.heap.Ns ce.locals m from hn)
      obtain ⟨z0, z1, z2, z3, z4, z5⟩ := I3.fpOk (Nat.le_refl _) nC
      exact ⟨m, hn, fun h'' sb => ⟨.ref D, H5, I7.turned (t' := s6.toks) (fun b o hb e => (sb.2 b hb).trans e) z0 z1 z3 z4 z5, rfl, qq⟩⟩
    · refine thnF (T.item (X.blk s3 H3 scope ce fp) rfl rfl rfl hc i [] s5 _ H5 (fun _ _ => False) I5 (still I5 n5) st5 go) fun r s6 ⟨u, hr, h6⟩ => ?_
      subst hr
      refine thnF h6 fun _ s7 ⟨x, H7, I7, r7, y7, st7, n7⟩ => ?_
      have I7' := I7.pinned (still I7 n7) (T.obj _ _ st7)
      refine thnF (pg.run _ s7 _ H7 x u _ I7' r7 (step x H7 y7)) fun _ s8 ⟨σ8, H8, I8, hw8, q8⟩ => ?_
      refine thnF (pi1.run _ s8 σ8 H8 _ I8 q8) fun xv s10 hx => thnF hx fun itv s11 h11 => ?_
      obtain ⟨it1, fp1, tn1, J1, H11, e1, I11, T1, st11, f11, W1, ⟨m1, w1⟩, turn1⟩ := h11
      subst e1
      have still1 : ∀ {H' : Hp}, (∀ b ∈ fp1, H' b = none) → ∀ b ∈ fp1, FpOk (X.blk s3 H3 scope ce fp) ([] ++ pinsAt fp s7.heap) H' b := fun hn b hb => ⟨hn b hb, (f11 b hb).2⟩
      -- what the block knew at its start it knows again
      have back : ∀ (j : Nat) v, (wipe σ (own.map (·.2)))[j]? = some (some v) → (wipe σ8 vs1)[j]? = some (some v) := fun j v e => by
        rw [← hw8] at e
        obtain ⟨e1, e2⟩ := wipe_some e
        rw [wipe_out fun z => e2 (hv j z)]
        exact e1
      have len8 : (wipe σ (own.map (·.2))).length = (wipe σ8 vs1).length := by rw [← hw8, wipe_length, wipe_length]
      have loop1 : codeAny (model X.prog X.w) X.A (.compLoop (dcE kx vx tg iter tg1 iter1 scope pos) 1 (.ref it1) (.ref D) ce)
          (fun r s' => match r with
            | .ok _ => ∃ m, m < n ∧ ∃ i H', Inv (X.blk s3 H3 scope ce fp) [] (wipe σ (own.map (·.2))) H' s' ∧ tn i s'.heap ∧ (∀ b ∈ fp, H' b = none) ∧ W i m H'
            | .error _ => False) s11 := by
        refine dc_inner (fun k s' => ∃ j H', Inv (X.blk s3 H3 scope ce fp) ([] ++ pinsAt fp s7.heap) (wipe σ8 vs1) H' s' ∧ tn1 j s'.heap ∧ (∀ b ∈ fp1, H' b = none) ∧ W1 j k H') ?_ m1
          ⟨0, H11, I11.weak (wipe_length _ _) (fun j v e => (wipe_some e).1), st11, fun b hb => (f11 b hb).1, w1⟩
        rintro k s12 ⟨j, H12, I12, st12, n12, w12⟩
        rcases turn1 j k H12 w12 with ⟨stop1, nx1⟩ | ⟨go1, Nx1, hNx1, step1⟩
        · refine thnF (T1.done (X.blk s3 H3 scope ce fp) rfl rfl rfl hc j _ s12 (wipe σ8 vs1) H12 (fun _ _ => False) I12 (still1 n12) st12 stop1) fun r s13 ⟨hr, I13⟩ => ?_
          subst hr
          obtain ⟨m', hm, w'⟩ := hNx H12 nx1
          have pin : ∀ b ∈ fp, ∀ o, s7.heap.get? b = some o → s13.heap.get? b = some o ∧ H12 b = none := fun b hb o e =>
            let z := I13.pin (b, o) (List.mem_append_right _ (List.mem_append_right _ (mem_pinsAt hb e)))
            ⟨z.1, z.2.1⟩
          refine ⟨m', hm, i + 1, H12, (I13.unpinned (pins := [])).weak len8 back, T.keep _ _ _ st7 fun b hb o e => (pin b hb o e).1, fun b hb => ?_, w'⟩
          obtain ⟨o, e, _⟩ := T.obj _ _ st7 b hb
          exact (pin b hb o e).2
        · refine thnF (T1.item (X.blk s3 H3 scope ce fp) rfl rfl rfl hc j _ s12 (wipe σ8 vs1) H12 (fun _ _ => False) I12 (still1 n12) st12 go1) fun r s13 ⟨u1, hr, h13⟩ => ?_
          subst hr
          refine thnF h13 fun _ s14 ⟨x1, H14, I14, r14, y14, st14, n14⟩ => ?_
          have I14' := I14.pinned (still1 n14) (T1.obj _ _ st14)
          refine thnF (pg1.run _ s14 (wipe σ8 vs1) H14 x1 u1 _ I14' r14 (step1 x1 H14 y14)) fun _ s15 ⟨σ15, H15, I15, hw15, q15⟩ => ?_
          refine thnF (pk.run _ s15 σ15 H15 _ I15 q15) fun z s16 ⟨yk, H16, I16, r16, q16⟩ => ?_
          refine thnF (pe.run _ s16 σ15 H16 _ I16 q16) fun z2 s17 ⟨yv, H17, I17, r17, kvs, qk, b, ek, hb, hDk, hz, nx⟩ => ?_
          subst ek
          cases (show z = Value.ref b from r16)
          refine dt_put (X := X.blk s3 H3 scope ce fp) hu I17 hDk hb hz r17 fun s18 I18 => ?_
          obtain ⟨m', hm, w'⟩ := hNx1 _ nx
          have pin : ∀ b ∈ fp1, ∀ o, s14.heap.get? b = some o → s18.heap.get? b = some o ∧ (upd H17 D (.dT (putK kvs qk yv))) b = none := fun b hb o e =>
            let z := I18.pin (b, o) (List.mem_append_right _ (List.mem_append_right _ (mem_pinsAt hb e)))
            ⟨z.1, z.2.1⟩
          refine ⟨m', hm, j + 1, _, I18.unpinned.weak (by rw [← hw15, wipe_length]) (fun j v e => by rw [← hw15] at e; exact (wipe_some e).1), T1.keep _ _ _ st14 fun b hb o e => (pin b hb o e).1, fun b hb => ?_, w'⟩
          obtain ⟨o, e, _⟩ := T1.obj _ _ st14 b hb
          exact (pin b hb o e).2
      exact dc_start1 loop1 (T1.self X.A 0 _ _ _ st11 loop1)
  exact codeAny_compStart_dict loop (T.self X.A 0 _ _ _ st4 loop)
end
end Wk
/-! sorted(d) of a dict whose keys are tuples of numbers. -/
namespace Wk
open PySem PySem.Spec PyProof.Rows L2
/-- an address and its numbers -/
def unref (h : Heap) : Value → Addr × List Int
  | .ref a => (a, TS.intsOf h (.ref a))
  | _ => (0, [])
/-- what sorted(d) asks and gives: ks the keys' numbers, ys the key objects with their numbers, ascending -/
def rSortD (d : Nat) (B : Int) : List V → Hp → VK → Prop := fun vs H Q => ∃ (a : Addr) (kvs : List (List Key × V)) (ks : List (List Int)), vs = [V.ref a] ∧ H a = some (.dT kvs) ∧ kvs.map (·.1) = ks.map (·.map Sum.inl) ∧ ks.length < 64 ∧
  (∀ n ∈ ks, n.length = d ∧ TS.Bd B n) ∧ ∀ (ys : List (Addr × List Int)) (p : Addr), (ys.map (·.2)).Perm ks → (ys.map (·.2)).Pairwise (fun n m => TS.code B n ≤ TS.code B m) → (∀ y ∈ ys, H y.1 = some (.tup (y.2.map V.int))) → H p = none →
    Q (.ref p) (upd H p (.lst (ys.map fun y => V.ref y.1)))
theorem kT_ints {H : Hp} : ∀ {kvs : List (List Key × V)} {xs : List (List Key × Addr × Value)} {ks : List (List Int)}, KT H kvs xs → kvs.map (·.1) = ks.map (·.map Sum.inl) →
    ∃ L : List (Addr × List Int), L.map (·.2) = ks ∧ (xs.map fun x => Value.ref x.2.1) = L.map (fun y => Value.ref y.1) ∧ ∀ y ∈ L, H y.1 = some (.tup (y.2.map V.int))
  | [], [], [], _, _ => ⟨[], rfl, rfl, fun y hy => (by cases hy)⟩
  | p :: ps, x :: xs, k :: ks, .cons h t, e => by
    obtain ⟨e1, e2⟩ := List.cons.inj e
    obtain ⟨L, l1, l2, l3⟩ := kT_ints t e2
    refine ⟨(x.2.1, k) :: L, by rw [List.map_cons, l1], by rw [List.map_cons, List.map_cons, l2], fun y hy => ?_⟩
    rcases List.mem_cons.mp hy with rfl | hy
    · have e1' : p.1 = k.map Sum.inl := e1
      have q := h.2.1
      rw [e1', List.map_map] at q
      exact q
    · exact l3 y hy
  | [], [], _ :: _, _, e => by cases e
  | _ :: _, _ :: _, [], _, e => by cases e
theorem refs_V (l : List (Addr × List Int)) : (l.map fun y => V.ref y.1) = (l.map (·.1)).map V.ref := by rw [List.map_map]; rfl
theorem refs_U (l : List (Addr × List Int)) : (l.map fun y => Value.ref y.1) = (l.map (·.1)).map Value.ref := by rw [List.map_map]; rfl
theorem call_sortedTD {X : Cx} {d : Nat} {B : Int} (hd1 : 1 ≤ d) (hc : X.calm = true) : CallR X (.builtin "sorted") (rSortD d B) := by
  intro pins s σ H xs us Q I r q
  obtain ⟨a, kvs, ks, rfl, ha, hks, h64, hB, q⟩ := q
  obtain ⟨u, rfl, rx⟩ := r.one
  cases rx
  obtain ⟨z, hs, xt, pr, o, es, ep, ho, hx, hdt, he, hn⟩ := (show ObjOk X.prog X.w H s.heap a (.dT kvs) from I.hok a _ ha)
  have l1 : es.size = xt.length := size_of_entries he
  have l2 : kvs.length = xt.length := Paired.length pr
  obtain ⟨L, L1, L2', L3⟩ := kT_ints pr hks
  have lL : L.length = ks.length := by rw [← L1, List.length_map]
  have lx : xt.length = L.length := by have := congrArg List.length L2'; rwa [List.length_map, List.length_map] at this
  refine Calls.call_function_entry PyProof.Rows.kind_sorted PyProof.Rows.plain_sorted PyProof.Rows.entry_sorted (PyProof.Rows.args_sorted1 _) ?_
  unfold Builtin.«sorted»
  refine wpAny_bind (m := checkCount "sorted" 1 1 _) (wpAny_pure ?_)
  refine wpAny_bind (PySem.W.kdu_collect (A := X.A.in1) (kdl_raw hs hx hdt) (I.ok.hd hc) ho (by rw [sizeLine_eq]; omega) fun h' tk acc hk it => ?_)
  have ea : acc.toList = L.map fun y => Value.ref y.1 := by
    rw [← L2']
    have hl : acc.toList.length = xt.length := by rw [Array.length_toList, it.1]; exact l1
    refine List.ext_getElem? fun j => ?_
    rw [List.getElem?_map]
    cases hj : acc.toList[j]? with
    | none =>
      have h1 := List.getElem?_eq_none_iff.mp hj
      rw [List.getElem?_eq_none (by omega)]
      rfl
    | some v =>
      obtain ⟨en, hen, hv⟩ := it.2 j v (by rw [← Array.getElem?_toList]; exact hj)
      rw [entry_at he j] at hen
      obtain ⟨b, hb, e2⟩ := Option.map_eq_some_iff.mp hen
      rw [hb, hv, ← e2]
      rfl
  have I1 : Inv X pins σ H { s with heap := h', toks := tk } := I.kept hk
  have hal : acc.toList.length = ks.length := by rw [ea, List.length_map, lL]
  have tup : ∀ y ∈ L, TS.TupInts h' (.ref y.1) y.2 := fun y hy => tupI_raw I1 (.inl (.inl (L3 y hy)))
  refine wpAny_bind (wpAny_newList ?_ (by rw [hal, sizeLine_eq]; omega))
  have hoL : (h'.push (seqObj "list" acc.toList.toArray 0)).get? h'.objs.size = some (seqObj "list" acc.toList.toArray 0) := Heap.get?_push_size _ rfl
  show wpAny _ _ _ _ _ { s with heap := h'.push (seqObj "list" acc.toList.toArray 0), toks := tk }
  have keep : ∀ b o, h'.get? b = some o → o.cls = .type "tuple" → (h'.push (seqObj "list" acc.toList.toArray 0)).get? b = some o := fun b o e _ => Heap.get?_push_of_some _ e
  have ok : TS.TupsOk h' d B acc.toList := fun v hv => by
    rw [ea] at hv
    obtain ⟨y, hy, rfl⟩ := List.mem_map.mp hv
    have hm : y.2 ∈ ks := by rw [← L1]; exact List.mem_map.mpr ⟨y, hy, rfl⟩
    exact ⟨y.2, tup y hy, hB _ hm⟩
  refine wpAny_bind (wpAny_holding (wpAny_call_entry PyProof.Rows.slot_list_sort ⟨_, hoL, rfl⟩ PyProof.Rows.entry_list_sort
    (TS.sort_tups (s := { s with heap := h'.push (seqObj "list" acc.toList.toArray 0), toks := tk }) hoL (by rw [hal]; exact h64) hd1 (ok.keeps keep) (fun v => TS.code B (TS.intsOf h' v)) (fun v hv ns t => ?_) fun out g1 g2 => ⟨_, rfl, ?_⟩) (PyProof.Rows.args_list_sort _)))
  · obtain ⟨ns0, t0, _⟩ := ok v hv
    have e : ns = ns0 := t.ints.symm.trans (t0.keeps keep).ints
    rw [e]
    show TS.code B (TS.intsOf h' v) = TS.code B ns0
    rw [t0.ints]
  · obtain ⟨e', he'⟩ := PyProof.Rows.sortedHeap_at (vs := acc.toList) (out := out) hoL
    -- the key objects with their numbers
    have un : ∀ y ∈ L, unref h' (Value.ref y.1) = y := fun y hy => by
      show (y.1, TS.intsOf h' (Value.ref y.1)) = y
      rw [(tup y hy).ints]
    have back : ∀ us : List Value, (∀ v ∈ us, ∃ y ∈ L, v = Value.ref y.1) → us = (us.map (unref h')).map (fun y => Value.ref y.1) := fun us hu => by
      rw [List.map_map]
      have : us.map (fun v => v) = us.map ((fun y => Value.ref y.1) ∘ unref h') := List.map_congr_left fun v hv => by
        obtain ⟨y, hy, rfl⟩ := hu v hv
        show Value.ref y.1 = Value.ref (unref h' (Value.ref y.1)).1
        rw [un y hy]
      rwa [List.map_id'] at this
    have hm : ∀ v ∈ out.toList, ∃ y ∈ L, v = Value.ref y.1 := fun v hv => by
      have := g1.mem_iff.mp hv
      rw [ea] at this
      obtain ⟨y, hy, rfl⟩ := List.mem_map.mp this
      exact ⟨y, hy, rfl⟩
    have hL : (acc.toList.map (unref h')) = L := by
      rw [ea, List.map_map]
      have : L.map (unref h' ∘ fun y => Value.ref y.1) = L.map (fun y => y) := List.map_congr_left fun y hy => un y hy
      rw [this, List.map_id']
    have hp : (out.toList.map (unref h')).Perm L := by
      have := g1.map (unref h')
      rwa [hL] at this
    have hlen : (((out.toList.map (unref h')).map fun y => V.ref y.1)).length ≤ sizeLine := by
      rw [List.length_map, hp.length_eq, lL, sizeLine_eq]
      omega
    have hv : Vals ((out.toList.map (unref h')).map fun y => V.ref y.1) out.toList := by
      rw [refs_V]
      conv => rhs; rw [back _ hm]
      rw [refs_U]
      exact vals_refs _
    refine wpAny_pure ⟨_, rfl, .ref h'.objs.size, upd H h'.objs.size (.lst ((out.toList.map (unref h')).map fun y => V.ref y.1)), I1.laid (t' := tk) (fun b u e => ?_) (Nat.le_refl _)
      (show ObjOk X.prog X.w _ _ _ (.lst ((out.toList.map (unref h')).map fun y => V.ref y.1)) from ⟨hlen, out.toList, e', hv, by rw [Array.toArray_toList]; exact he'⟩), rfl, q _ _ ?_ ?_ ?_ (I1.hok.fresh (Nat.le_refl _))⟩
    · have hb : b < h'.objs.size := Heap.lt_size e
      rw [PyProof.Rows.sortedHeap_old (Nat.ne_of_lt hb) (by rw [size_push']; exact Nat.lt_succ_of_lt hb)]
      exact Heap.get?_push_of_some _ e
    · rw [← L1]
      exact hp.map _
    · rw [List.map_map, List.pairwise_map]
      refine g2.imp_of_mem fun {u v} hu hv h => ?_
      obtain ⟨y, hy, rfl⟩ := hm u hu
      obtain ⟨y', hy', rfl⟩ := hm v hv
      exact h
    · intro y hy
      exact L3 y (hp.mem_iff.mp hy)
end Wk
/-! enumerate of a list or of a tuple. -/
namespace Wk
open PySem PySem.Spec PyProof.Rows L2
open AutoSeq1 (wpAny_loadPart')
theorem newEnumT (l : Addr) (items : Array Value) (n : Nat) (dct : Option Addr) (sl : Array (Option Value)) :
    Meets (Builtin.«enumerate.__new__» ⟨[.type "enumerate", .ref l], []⟩) (fun _ R s => s.heap.get? l = some { cls := .type "tuple", dict := dct, data := .seq items n, slots := sl } ∧
      R (.ok (.ret (.ref (s.heap.push { cls := .type "tuple_iterator", data := .fields #[.ref l, .int 0 0] }).objs.size)))
        { s with heap := (s.heap.push { cls := .type "tuple_iterator", data := .fields #[.ref l, .int 0 0] }).push { cls := .type "enumerate", data := .fields #[.none, .bool false, .ref s.heap.objs.size, rawInt 0, .none, .none] } }) :=
  .of_wp fun prog w A R s h => by
    obtain ⟨hp, g, d, tk, os⟩ := s
    obtain ⟨hl, h⟩ := h
    have hsub := sub_enumerate
    have hL : Heap.IsTuple (Shared.heap ⟨hp, g, d, tk, os⟩) l items := ⟨_, hl, rfl, n, rfl⟩
    wp_walk using wpAny_loadPart' hl
    refine wpAny_stack_any fun st => wpAny_pure ?_
    split
    · rename_i c _ _ _ _ _
      cases (c == Value.type "enumerate") <;> (wp_walk using wpAny_loadPart' hl, wpAny_pyIter_tuple hL; exact ⟨_, rfl, h⟩)
    · wp_walk using wpAny_loadPart' hl, wpAny_pyIter_tuple hL
      exact ⟨_, rfl, h⟩
section
variable {prog : Program} {w : World} {A : Around} {E : Value → Shared → Prop} {s : Shared}
theorem callEnumT {l : Addr} {items : Array Value} {Q : Value → Shared → Prop} (hL : s.heap.IsTuple l items)
    (h : ∀ h', IsEnum h' (s.heap.objs.size + 1) s.heap.objs.size 0 .none → h'.IsTupleIter s.heap.objs.size l 0 → (∀ b o, s.heap.get? b = some o → h'.get? b = some o) → Q (.ref (s.heap.objs.size + 1)) { s with heap := h' }) :
    wpAny (model prog w) A (call (.type "enumerate") [.ref l]) Q E s := by
  obtain ⟨⟨c, dct, dt, sl⟩, hl, hc, n, hd⟩ := hL
  cases (show c = .type "tuple" from hc)
  cases (show dt = .seq items n from hd)
  refine callType_new F.called_enumerate (by decide) (F.typeCall_enumerate_1 _) (F.newCall_enumerate_1 _) (fun obj => F.args_object_init_2 obj _) F.entry_enumerate_new (newEnumT l items n dct sl) ⟨hl, ?_⟩
  have hz : (s.heap.push { cls := .type "tuple_iterator", data := .fields #[.ref l, .int 0 0] }).objs.size = s.heap.objs.size + 1 := Heap.size_push ..
  show _ ∧ _
  rw [hz]
  have he : IsEnum ((s.heap.push { cls := .type "tuple_iterator", data := .fields #[.ref l, .int 0 0] }).push { cls := .type "enumerate", data := .fields #[.none, .bool false, .ref s.heap.objs.size, rawInt 0, .none, .none] }) (s.heap.objs.size + 1) s.heap.objs.size 0 .none := by
    have q := Heap.get?_push_size (s.heap.push { cls := .type "tuple_iterator", data := .fields #[.ref l, .int 0 0] }) (o := { cls := .type "enumerate", data := .fields #[.none, .bool false, .ref s.heap.objs.size, rawInt 0, .none, .none] }) rfl
    rwa [hz] at q
  exact ⟨⟨_, he, rfl⟩, h _ he ⟨_, Heap.get?_push_of_some _ (Heap.get?_push_size _ rfl), rfl, rfl⟩ fun b o x => Heap.get?_push_of_some _ (Heap.get?_push_of_some _ x)⟩
end
/-- the tuple at a, each item in a new pair -/
def IteT (K : PySem.W.Frag) (a : Addr) : It :=
  ⟨fun i H => ∃ (xs : List V) (x : V), SqT K H a xs ∧ xs[i]? = some x, fun i H v H' => ∃ T x, v = .ref T ∧ H T = none ∧ H' = upd H T (.tup [.int (i : Nat), x]) ∧ ∀ xs, SqT K H a xs → xs[i]? = some x, fun i H => ∃ xs : List V, SqT K H a xs ∧ xs.length = i⟩
theorem turnEnumT {P : Program} {w : World} {K : PySem.W.Frag} {elts : List Expr} {kk : Nat} {tpos : Pos} (a e it : Addr) :
    Turn P w K (.Tuple elts kk tpos) (IteT K a) [e, it] e (fun i h => (∃ old, IsEnum h e it ((i : Nat) : Int) old) ∧ h.IsTupleIter it a i ∧ e ≠ it) where
  mem := by simp
  obj := fun i h st b hb => by
    obtain ⟨⟨old, he⟩, ⟨o, ho, hc, hd⟩, _⟩ := st
    rcases (show b = e ∨ b = it by simpa using hb) with z | z
    · rw [z]; exact ⟨_, he, fun v q => nomatch q⟩
    · rw [z]; exact ⟨o, ho, fun v q => by rw [hd] at q; cases q⟩
  keep := fun i h h' st k => let ⟨⟨old, he⟩, hi, hne⟩ := st; ⟨⟨old, k e (by simp) _ he⟩, hi.at fun o q => k it (by simp) o q, hne⟩
  item := by
    intro X hP hw hK hc i pins s σ H E I hf st hg
    subst hP hw hK
    obtain ⟨⟨old, he⟩, hit, hne⟩ := st
    obtain ⟨xs, x, hq, hx⟩ := hg
    obtain ⟨its, rv, p, hz⟩ := I.tuple hq
    obtain ⟨u, hu, ru⟩ := rv.get hx
    have hel : e < s.heap.objs.size := Heap.lt_size he
    have hil : it < s.heap.objs.size := by obtain ⟨_, q, _⟩ := hit; exact Heap.lt_size q
    have hta : a ≠ it := fun z => by
      obtain ⟨o, h1, h2, _⟩ := p
      obtain ⟨o', h1', h2', _⟩ := hit
      rw [z, h1'] at h1
      cases h1
      rw [h2'] at h2
      exact absurd h2 (by decide)
    have hte : e ≠ a := fun z => by
      obtain ⟨o, h1, h2, _⟩ := p
      rw [← z, he] at h1
      cases h1
      exact absurd (show Value.type "enumerate" = .type "tuple" from h2) (by decide)
    have hi : i < its.toArray.size := by simpa using (List.getElem?_eq_some_iff.mp hu).1
    refine wpAny_pyNext_enum_itemD (PySem.Draws.tuple (prog := X.prog) (w := X.w) (A := X.A.in1) (I.ok.hd hc) it a hta its.toArray) he ⟨hit, p⟩ hi hne (by simp [hne, hte]) fun u' h' tk hu' ho hst hT hsz hk => ?_
    have eu : u' = u := by
      have : its.toArray[i]? = some u' := hu'
      rw [List.getElem?_toArray, hu] at this
      exact (Option.some.inj this).symm
    subst eu
    refine ⟨_, rfl, wpAny_letOwnedTupleGo_enum (s := { s with heap := h', toks := tk + 1 }) ho fun h'' he' sb => ?_⟩
    have hT2 : h''.get? s.heap.objs.size = some { cls := .type "tuple", data := .seq #[.int i tk, u'] } := (sb.2 _ (Nat.ne_of_gt hel)).trans hT
    have new : ObjOk X.prog X.w (upd H s.heap.objs.size (.tup [.int (i : Nat), x])) h'' s.heap.objs.size (.tup [.int (i : Nat), x]) :=
      ⟨by show 2 ≤ sizeLine; decide, [.int i tk, u'], .cons ⟨_, rfl⟩ (.cons ru .nil), ⟨_, hT2, rfl, _, rfl⟩⟩
    have I1 : Inv X pins σ (upd H s.heap.objs.size (.tup [.int (i : Nat), x])) { s with heap := h'', toks := tk + 1 } :=
      I.turnedNew (ch := [e, it]) (fun b ob hb q => (sb.2 b (fun z => hb (by simp [z]))).trans (hk b ob (fun z => hb (by simp [z])) (fun z => hb (by simp [z])) q)) hf (Nat.le_refl _) new
    refine ⟨.ref s.heap.objs.size, _, I1, rfl, ⟨_, x, rfl, I.hok.fresh (Nat.le_refl _), rfl, fun ys hy => by rw [I.tuple_inj hy hq]; exact hx⟩, ⟨⟨u', ?_⟩, hst.1.at fun o q => (sb.2 it (Ne.symm hne)).trans q, hne⟩, fun b hb => ?_⟩
    · rw [show ((i + 1 : Nat) : Int) = (i : Int) + 1 by omega]
      exact he'
    · have hb' : b < s.heap.objs.size := by
        rcases (show b = e ∨ b = it by simpa using hb) with z | z
        · rw [z]; exact hel
        · rw [z]; exact hil
      rw [upd_ne (Nat.ne_of_lt hb')]
      exact (hf b hb).1
  done := by
    intro X hP hw hK hc i pins s σ H E I hf st hg
    subst hP hw hK
    obtain ⟨⟨old, he⟩, hit, hne⟩ := st
    obtain ⟨xs, hq, hx⟩ := hg
    obtain ⟨its, rv, p, hz⟩ := I.tuple hq
    obtain ⟨f0, f1, f2, f3, f4, f5⟩ := hf it (by simp)
    have hta : a ≠ it := fun z => by
      obtain ⟨o, h1, h2, _⟩ := p
      obtain ⟨o', h1', h2', _⟩ := hit
      rw [z, h1'] at h1
      cases h1
      rw [h2'] at h2
      exact absurd h2 (by decide)
    have hl : i = its.toArray.size := by rw [List.size_toArray, ← rv.length]; exact hx.symm
    exact wpAny_pyNext_enum_endD (PySem.Draws.tuple (prog := X.prog) (w := X.w) (A := X.A.in1) (I.ok.hd hc) it a hta its.toArray) he ⟨hl ▸ hit, p⟩ fun h' eb => ⟨rfl, I.turned (t' := s.toks) (fun b o hb q => eb b o hb q) f0 f1 f3 f4 f5⟩
  self := fun A i s Q E st h => let ⟨⟨_, he⟩, _⟩ := st; wpAny_pyIter_enum he h
/-- enumerate(x), x a list or a tuple -/
def iEnumS (K : PySem.W.Frag) (ta : TA) : TI := fun σ H R => ta σ H fun vs H1 => ∃ a xs, vs = [.ref a] ∧ ((SqL K H1 a xs ∧ R (Ite K a) H1) ∨ (SqT K H1 a xs ∧ R (IteT K a) H1))
theorem pi_enumS {X : Cx} {e : Expr} {ta : TA} {p pos tpos : Pos} {elts : List Expr} {kk : Nat} (hg : Gl X "enumerate") (hm : X.mg "enumerate" = none) (ha : PA X [e] ta) (hs : starEach [e] X.env = [(false, eval e X.env)] := by rfl) :
    PI X (.Tuple elts kk tpos) (.Call (.Name "enumerate" p) [e] [] pos) (iEnumS X.K ta) := by
  refine ⟨fun pins s σ H R I h => ?_⟩
  refine Call_ (ld_blt I hg hm boot_enumerate (PyProof.Rows.callWith_type1 (thn (ha.run pos pins s σ H _ I h) fun us s1 ⟨vs, H1, I1, r1, q1⟩ => ?_) hs rfl))
  obtain ⟨a, xs, rfl, q⟩ := q1
  obtain ⟨u, rfl, ru⟩ := r1.one
  cases (show u = Value.ref a from ru)
  have fp : ∀ b ∈ [s1.heap.objs.size + 1, s1.heap.objs.size], FpOk X pins H1 b := fun b hb => by
    have hle : s1.heap.objs.size ≤ b := by
      rcases (show b = s1.heap.objs.size + 1 ∨ b = s1.heap.objs.size by simpa using hb) with z | z <;> omega
    exact I1.fpOk hle (I1.hok.fresh hle)
  rcases q with ⟨hq, q⟩ | ⟨hq, q⟩
  · obtain ⟨its, rv, p', hz⟩ := I1.list hq
    refine call_enumerate_list p'.isList fun h' he hit hsz hk => wpAny_pyIter_enum he ?_
    exact ⟨s1.heap.objs.size + 1, [s1.heap.objs.size + 1, s1.heap.objs.size], _, _, H1, rfl, I1.kept (t' := s1.toks) hk, turn_enum a (s1.heap.objs.size + 1) s1.heap.objs.size, ⟨⟨.none, he⟩, hit, Nat.succ_ne_self _⟩, fp, q⟩
  · obtain ⟨its, rv, p', hz⟩ := I1.tuple hq
    refine callEnumT p' fun h' he hit hk => wpAny_pyIter_enum he ?_
    exact ⟨s1.heap.objs.size + 1, [s1.heap.objs.size + 1, s1.heap.objs.size], _, _, H1, rfl, I1.kept (t' := s1.toks) hk, turnEnumT a (s1.heap.objs.size + 1) s1.heap.objs.size, ⟨⟨.none, he⟩, hit, Nat.succ_ne_self _⟩, fp, q⟩
end Wk
/-! The bag of draws: made of the script, drawn from. -/
namespace T77
open PySem PySem.Spec PyProof.Rows L2 Wk
def top (i : Nat) : Stmt := PySem.Challenge.pw_contentties_k77_bundles_turned.main.body.getD i (.Pass ⟨0, 0, 0, 0⟩)
abbrev sBag : Stmt := top 29
abbrev sTake : Stmt := top 30
/-! ### the data -/
/-- a bag stands at b: three numbers and the script's sizes; at most n of them were taken -/
structure BagAt (H : Hp) (b l : Addr) (n : Nat) : Prop where
  ex : ∃ (x0 x1 x2 : Int) (cs : List Int), H b = some (.lst [.int x0, .int x1, .int x2, .ref l]) ∧ H l = some (.lst (cs.map V.int)) ∧ (∀ c ∈ cs, 0 ≤ c) ∧ 0 ≤ x0 ∧ 0 ≤ x1 ∧ x1 < 2147483647 ∧ 0 ≤ x2 ∧ x2 ≤ n ∧ cs.length ≤ 63
theorem BagAt.mono {H : Hp} {b l : Addr} {n m : Nat} (B : BagAt H b l n) (h : n ≤ m) : BagAt H b l m := by
  obtain ⟨x0, x1, x2, cs, h1, h2, h3, h4, h5, h6, h7, h8, h9⟩ := B.ex
  exact ⟨x0, x1, x2, cs, h1, h2, h3, h4, h5, h6, h7, by omega, h9⟩
theorem BagAt.same {H H' : Hp} {b l : Addr} {n : Nat} (B : BagAt H b l n) (h : Same H H') : BagAt H' b l n := by
  obtain ⟨x0, x1, x2, cs, h1, h2, h3⟩ := B.ex
  exact ⟨x0, x1, x2, cs, h _ _ h1, h _ _ h2, h3⟩
/-- all that was tracked stands, but at b -/
def But (b : Addr) (H H' : Hp) : Prop := ∀ c o, c ≠ b → H c = some o → H' c = some o
theorem But.refl (b : Addr) (H : Hp) : But b H H := fun _ _ _ h => h
theorem But.trans {b : Addr} {H H1 H2 : Hp} (x : But b H H1) (y : But b H1 H2) : But b H H2 := fun c o hc h => y c o hc (x c o hc h)
theorem But.of {b : Addr} {H H' : Hp} (x : Same H H') : But b H H' := fun c o _ h => x c o h
theorem But.upd (b : Addr) (H : Hp) (o : HO) : But b H (upd H b o) := fun c u hc h => by rw [upd_ne hc]; exact h
theorem same_upd {H : Hp} {p : Addr} {o : HO} (h : H p = none) : Same H (upd H p o) := fun b x e => by
  rw [upd_ne (ne_of_none e h)]
  exact e
/-! ### promises -/
def spBag (K : PySem.W.Frag) : Sp := fun vs H Q _ => ∃ (a : Addr) (ns : List Int), vs = [.ref a] ∧ SqL K H a (ns.map V.int) ∧ ns.length ≤ 63 ∧ ∀ (H' : Hp) (b l : Addr), Same H H' → H b = none → BagAt H' b l 0 → Q (.ref b) H'
def spTake : Sp := fun vs H Q _ => ∃ (b l : Addr) (m : Int) (n : Nat), vs = [.ref b, .int m] ∧ 0 < m ∧ m < 2 ^ 62 ∧ BagAt H b l n ∧ n ≤ 1000000 ∧
  ∀ (r : Int) (H' : Hp), 0 ≤ r → r < m → BagAt H' b l (n + 1) → But b H H' → Q (.int r) H'
theorem scB : FnScope ["_law_script", "_law_cell"] ["_law_script"] (defScope sBag) := ⟨rfl, rfl, rfl, by decide +kernel, rfl, by decide +kernel, by decide +kernel⟩
theorem cut63 (xs : List V) : cutV xs none (some 63) = xs.take 63 := by
  unfold cutV
  rw [HT.sIx_none, show HT.sIx xs.length xs.length (some 63) = min 63 xs.length from HT.sIx_nat xs.length xs.length 63]
  rw [List.drop_zero, Nat.sub_zero]
  by_cases h : xs.length ≤ 63
  · rw [Nat.min_eq_right h, List.take_of_length_le (Nat.le_refl _), List.take_of_length_le h]
  · rw [Nat.min_eq_left (by omega)]
section
variable {P : Program} {w : World} {K : PySem.W.Frag} {mg : Str → Option Value} {base : Heap}
theorem ok_bag {f : Addr} {fd : FuncData} {k : Nat} (F : Fun K "_law_bag" "_law_bag" sBag f fd) (ma : mg "abs" = none) : FnOk P w K mg base CX0 (k + 1) f fd ["_law_script"] (spBag K) := by
  refine F.ok scB (fun vs H Q E h => ?_) (fun cdv A outer s H vs Q E hr h => ?_)
  · obtain ⟨a, ns, rfl, _⟩ := h
    rfl
  · obtain ⟨a, ns, rfl, hS, hlen, q⟩ := h
    refine ⟨_, pss_one (ps_ret (pe_lst (pa_cons pe_int (pa_cons pe_int (pa_cons pe_int (pa_cons
      (pe_lc (own := [("_law_cell", 1)]) (g := gName 1) (tt := tYes) rfl scB.nd (pi_list (pe_slice sl_list (pv 0) po_none (po_some pe_int))) (blkOk_by (N := ["_law_script", "_law_cell"]) (sc := defScope sBag) (by decide +kernel))
        (fun _ _ _ _ _ => pg_name (i := 1) scB.nd rfl (Or.inl rfl)) (fun _ _ _ _ _ => pts_nil) (fun _ _ _ _ _ => pe_callB call_abs (by rfl) ma (by decide +kernel) (pa_cons (pv 1) pa_nil))) pa_nil)))))), ?_⟩
    refine ⟨.ref a, rfl, 63, rfl, a, ns.map V.int, rfl, hS, fun c nc => ?_⟩
    refine ⟨c, rfl, ⟨_, .inl (.inl upd_same)⟩, fun D nD => ?_⟩
    rw [cut63, ← List.map_take]
    rw [cut63, ← List.map_take] at nD
    generalize hcs : ns.take 63 = cs at nD ⊢
    have hl : cs.length ≤ 63 := by rw [← hcs, List.length_take]; omega
    have ncD : c ≠ D := ne_of_none upd_same nD
    have s1 : Same H (upd H c (.lst (cs.map V.int))) := same_upd nc
    have nD0 : H D = none := s1.free nD
    refine lc_list (K := K) (a := c) (xs := cs.map V.int) (fun i H2 => Same H H2 ∧ H2 c = some (.lst (cs.map V.int)) ∧ H2 D = some (.lst (((cs.take i).map fun z => if z < 0 then -z else z).map V.int))) ?_ (fun i H2 _ h2 => .inl (.inl h2.2.1)) ?_ ?_
    · exact ⟨fun b o z => by rw [upd_ne (ne_of_none z nD0)]; exact s1 b o z, by rw [upd_ne ncD]; exact upd_same, by rw [upd_same]; rfl⟩
    · rintro i x H2 hx ⟨g1, g2, g3⟩
      obtain ⟨z, hz, rfl⟩ : ∃ z, cs[i]? = some z ∧ x = V.int z := by
        rw [List.getElem?_map] at hx
        cases e : cs[i]? with
        | none => rw [e] at hx; cases hx
        | some z => rw [e] at hx; exact ⟨z, rfl, (Option.some.inj hx).symm⟩
      have hi : i < cs.length := (List.getElem?_eq_some_iff.mp hz).1
      refine ⟨rfl, .int z, rfl, z, rfl, _, g3, ?_, ?_, ?_, ?_⟩
      · rw [List.length_map, List.length_map, List.length_take]
        exact Nat.lt_of_le_of_lt (Nat.min_le_left _ _) (small1000 (by omega))
      · intro b o e
        rw [upd_ne (ne_of_none e nD0)]
        exact g1 b o e
      · rw [upd_ne ncD]; exact g2
      · rw [upd_same, List.take_add_one, hz, List.map_append, List.map_append]
        rfl
    · rintro H2 ⟨g1, g2, g3⟩
      rw [List.length_map, List.take_length] at g3
      refine ⟨(by show 4 ≤ sizeLine; decide), fun b nb => ?_⟩
      refine q _ b D (fun x o e => by rw [upd_ne (ne_of_none (g1 x o e) nb)]; exact g1 x o e) (g1.free nb) ⟨0, 1234567891, 0, _, upd_same, by rw [upd_ne (ne_of_none g3 nb)]; exact g3, ?_, by decide, by decide, by decide, by decide, by decide, by rw [List.length_map]; exact hl⟩
      intro y hy
      obtain ⟨z, _, rfl⟩ := List.mem_map.mp hy
      split <;> omega
end
end T77
namespace T77
open PySem PySem.Spec PyProof.Rows L2 Wk
/-- o[i] of a list, i from 0 on -/
def rGetN : V → V → Hp → VK → Prop := fun o i H Q => ∃ (p : Addr) (xs : List V) (j : Nat) (v : V), o = .ref p ∧ i = .int (j : Int) ∧ H p = some (.lst xs) ∧ xs[j]? = some v ∧ Q v H
theorem get_list {X : Cx} : PGet X rGetN := by
  intro pins s σ H o i ov iv Q I ro ri h
  obtain ⟨p, xs, j, v, rfl, rfl, hp, hv, q⟩ := h
  cases (show ov = Value.ref p from ro)
  obtain ⟨t, rfl⟩ := (show ∃ t, iv = Value.int (j : Int) t from ri)
  obtain ⟨its, r, pl, hz⟩ := I.list (.inl (.inl hp))
  obtain ⟨u, hu, ru⟩ := r.get hv
  have hj : j < xs.length := (List.getElem?_eq_some_iff.mp hv).1
  rw [sizeLine_eq] at hz
  exact wpAny_getItem_list pl.isList (by omega) (by omega) (by simpa using hu) ⟨v, H, I, ru, q⟩
theorem scT : FnScope ["_law_bag_here", "_law_many", "_law_cell", "_law_mixed", "_law_drawn", "_law_early", "_law_second"] ["_law_bag_here", "_law_many"] (defScope sTake) := ⟨rfl, rfl, rfl, by decide +kernel, rfl, by decide +kernel, by decide +kernel⟩
/-- the bag's parts, as they stand -/
structure Parts (H : Hp) (b l : Addr) (x0 x1 x2 : Int) (cs : List Int) : Prop where
  hb : H b = some (.lst [.int x0, .int x1, .int x2, .ref l])
  hl : H l = some (.lst (cs.map V.int))
  c0 : ∀ c ∈ cs, 0 ≤ c
  cl : cs.length ≤ 63
theorem Parts.ne {H : Hp} {b l : Addr} {x0 x1 x2 : Int} {cs : List Int} (p : Parts H b l x0 x1 x2 cs) : l ≠ b := fun e => by
  have h1 := p.hb
  have h2 := p.hl
  rw [e, h1] at h2
  have h3 := HO.lst.inj (Option.some.inj h2)
  match cs, h3 with
  | [a, c, d, f], h3 => simp at h3
theorem Parts.put {H : Hp} {b l : Addr} {x0 x1 x2 : Int} {cs : List Int} (p : Parts H b l x0 x1 x2 cs) (y0 y1 y2 : Int) : Parts (upd H b (.lst [.int y0, .int y1, .int y2, .ref l])) b l y0 y1 y2 cs :=
  ⟨upd_same, by rw [upd_ne p.ne]; exact p.hl, p.c0, p.cl⟩
section
variable {P : Program} {w : World} {K : PySem.W.Frag} {mg : Str → Option Value} {base : Heap}
theorem ok_take {f : Addr} {fd : FuncData} {k : Nat} (F : Fun K "_law_take" "_law_take" sTake f fd) (ml : mg "len" = none) (mi : mg "int" = none) : FnOk P w K mg base CX0 (k + 1) f fd ["_law_bag_here", "_law_many"] spTake := by
  refine F.ok scT (fun vs H Q E h => ?_) (fun cdv A outer s H vs Q E hr h => ?_)
  · obtain ⟨b, l, m, n, rfl, _⟩ := h
    rfl
  · obtain ⟨b, l, m, n, rfl, m0, m1, B, hn, q⟩ := h
    refine ⟨_, C8.pss_cut (ps_if (pt_cmpR op_eq (pe_ix ix_list (pv 0) pe_int (fun _ _ => rfl)) pe_int (nomark _))
        (pss_cons (ps_set (i := 2) scT.nd rfl (Or.inl rfl) pe_int)
        (C8.pss_cut (ps_if (pt_cmpR op_lt (pe_ix ix_list (pv 0) pe_int (fun _ _ => rfl)) (pe_callB call_len_seq (by rfl) ml PySem.boot_len (pa_cons (pe_ix ix_list (pv 0) pe_int (fun _ _ => rfl)) pa_nil)) (nomark _))
          (pss_one (ps_set (i := 2) scT.nd rfl (Or.inl rfl) (pe_ix ix_list (pe_ix ix_list (pv 0) pe_int (fun _ _ => rfl)) (pe_ix ix_list (pv 0) pe_int (fun _ _ => rfl)) (fun _ _ => rfl)))) pss_nil)
        (pss_cons (ps_augS (pv 0) pe_int get_list pe_int ip_add set_list)
        (C8.pss_cut (ps_if (pt_cmpR op_ge (pv 2) pe_int (nomark _)) (pss_one (ps_asg (pv 2) (pg_sub (pv 0) pe_int set_list))) pss_nil)
        (pss_cons (ps_set (i := 3) scT.nd rfl (Or.inl rfl) (pe_op op_add (pe_op op_add (pe_op op_mul (pe_ix ix_list (pv 0) pe_int (fun _ _ => rfl)) pe_int)
            (pe_op op_mod (pe_callTy call_int1 (by rfl) mi (by decide +kernel) (pa_cons (pv 2) pa_nil)) pe_int)) (pe_op op_mul pe_int (pe_ix ix_list (pv 0) pe_int (fun _ _ => rfl)))))
        (pss_one (ps_asg (pe_op op_mod (pe_callTy call_int1 (by rfl) mi (by decide +kernel) (pa_cons (pv 3) pa_nil)) pe_int) (pg_sub (pv 0) pe_int set_list)))))))) pss_nil)
      (pss_cons (ps_if (pt_cmpR op_gt (pe_ix ix_list (pv 0) pe_int (fun _ _ => rfl)) pe_int (nomark _))
        (pss_cons (ps_set (i := 4) scT.nd rfl (Or.inl rfl) (pe_op op_mod (pe_callTy call_int1 (by rfl) mi (by decide +kernel) (pa_cons (pe_ix ix_list (pv 0) pe_int (fun _ _ => rfl)) pa_nil)) (pv 1)))
        (pss_cons (ps_asg (pe_op op_fdivW (pe_callTy call_int1 (by rfl) mi (by decide +kernel) (pa_cons (pe_ix ix_list (pv 0) pe_int (fun _ _ => rfl)) pa_nil)) (pv 1)) (pg_sub (pv 0) pe_int set_list))
        (pss_one (ps_ret (pv 4))))) pss_nil)
      (pss_cons (ps_set (i := 5) scT.nd rfl (Or.inl rfl) (pe_op op_mod (pe_callTy call_int1 (by rfl) mi (by decide +kernel) (pa_cons (pe_op op_mul (pe_op op_add (pe_ix ix_list (pv 0) pe_int (fun _ _ => rfl)) pe_int) pe_int) pa_nil)) pe_int))
      (pss_cons (ps_set (i := 6) scT.nd rfl (Or.inl rfl) (pe_op op_mod (pe_callTy call_int1 (by rfl) mi (by decide +kernel) (pa_cons (pe_op op_mul (pe_op op_mod (pe_callTy call_int1 (by rfl) mi (by decide +kernel)
          (pa_cons (pe_op op_mul (pv 5) (pv 5)) pa_nil)) pe_int) pe_int) pa_nil)) pe_int))
      (pss_one (ps_ret (pe_op op_mod (pe_callTy call_int1 (by rfl) mi (by decide +kernel) (pa_cons (pe_op op_fdiv (pv 6) pe_int) pa_nil)) (pv 1))))))), ?_⟩
    obtain ⟨x0, x1, x2, cs, h1, h2, h3, h4, h5, h6, h7, h8, h9⟩ := B.ex
    have p0 : Parts H b l x0 x1 x2 cs := ⟨h1, h2, h3, h9⟩
    -- behind the first if
    refine ⟨fun σ H2 => ∃ (v2 v3 : Option V) (y0 y1 y2 : Int), σ = [some (.ref b), some (.int m), v2, v3, none, none, none] ∧ Parts H2 b l y0 y1 y2 cs ∧ 0 ≤ y0 ∧ 0 ≤ y1 ∧ y1 < 2147483647 ∧ 0 ≤ y2 ∧ y2 ≤ n + 1 ∧ But b H H2, ?_, ?_⟩
    · refine ⟨_, rfl, b, _, 0, _, rfl, rfl, .inl (.inl h1), rfl, rfl, _, rfl, ?_⟩
      refine ite2 (fun hc => ?_) (fun hc => ?_)
      · -- cell
        refine ⟨fun σ H2 => ∃ c : Int, 0 ≤ c ∧ σ = [some (.ref b), some (.int m), some (.int c), none, none, none, none] ∧ H2 = H, ?_, ?_⟩
        · refine ⟨_, rfl, b, _, 2, _, rfl, rfl, .inl (.inl h1), rfl, _, rfl, b, _, 3, _, rfl, rfl, .inl (.inl h1), rfl, l, _, rfl, .inl (.inl (.inl h2)), _, _, rfl, rfl, _, rfl, ?_⟩
          refine ite2 (fun hi => ?_) (fun hi => ?_)
          · have hi' : x2 < (cs.length : Int) := by simpa using hi
            have hx : (x2.toNat : Int) = x2 := Int.toNat_of_nonneg h7
            have hlt : x2.toNat < cs.length := by omega
            have e : (cs.map V.int)[x2.toNat]? = some (V.int cs[x2.toNat]) := by rw [List.getElem?_map, List.getElem?_eq_getElem hlt]; rfl
            have a1 := atI_nat e
            rw [hx] at a1
            refine ⟨_, rfl, b, _, 3, _, rfl, rfl, .inl (.inl h1), rfl, _, rfl, b, _, 2, _, rfl, rfl, .inl (.inl h1), rfl, l, _, x2, _, rfl, rfl, .inl (.inl h2), a1, cs[x2.toNat], h3 _ (List.getElem_mem hlt), rfl, rfl⟩
          · exact ⟨0, by decide, rfl, rfl⟩
        · rintro σ H2 ⟨c, hc0, rfl, hH⟩
          rw [hH]
          have e2 : ([V.int x0, V.int x1, V.int x2, V.ref l] : List V)[2]? = some (V.int x2) := rfl
          refine ⟨_, rfl, b, _, 2, _, rfl, rfl, h1, e2, x2, 1, rfl, rfl, b, _, 2, 2, rfl, rfl, h1, rfl, ?_⟩
          refine ⟨fun σ H2 => ∃ y0 : Int, 0 ≤ y0 ∧ σ = [some (.ref b), some (.int m), some (.int c), none, none, none, none] ∧ Parts H2 b l y0 x1 (x2 + 1) cs ∧ But b H H2, ?_, ?_⟩
          · refine ⟨_, rfl, _, _, rfl, rfl, _, rfl, ?_⟩
            refine ite2 (fun _ => ?_) (fun _ => ?_)
            · refine ⟨_, rfl, _, rfl, b, _, 0, 0, rfl, rfl, upd_same, rfl, ?_⟩
              rw [upd_upd]
              exact ⟨c, hc0, rfl, p0.put c x1 (x2 + 1), But.upd _ _ _⟩
            · exact ⟨x0, h4, rfl, p0.put x0 x1 (x2 + 1), But.upd _ _ _⟩
          · rintro σ H2 ⟨y0, g0, rfl, p, bt⟩
            refine ⟨_, rfl, b, _, 1, _, rfl, rfl, .inl (.inl p.hb), rfl, x1, 48271, rfl, rfl, .inr ⟨by decide, by decide⟩, _, rfl, .inl ⟨c, rfl, _, _, rfl, rfl, (by show (0 : Int) < 2147483647; decide), _, _, rfl, rfl,
              _, rfl, b, _, 2, _, rfl, rfl, .inl (.inl p.hb), rfl, _, _, rfl, rfl, .inl ⟨by decide, by decide⟩, _, _, rfl, rfl, ?_⟩⟩
            refine ⟨_, rfl, .inl ⟨_, rfl, _, _, rfl, rfl, (by show (0 : Int) < 2147483647; decide), _, rfl, b, _, 1, 1, rfl, rfl, p.hb, rfl, ?_⟩⟩
            exact ⟨_, _, y0, _, x2 + 1, rfl, p.put y0 _ (x2 + 1), g0, Int.emod_nonneg _ (by decide), Int.emod_lt_of_pos _ (by decide), by omega, by omega, bt.trans (But.upd _ _ _)⟩
      · refine ⟨none, none, x0, x1, x2, rfl, p0, h4, h5, h6, h7, by omega, But.refl b H⟩
    · rintro σ H2 ⟨v2, v3, y0, y1, y2, rfl, p, g0, g1, g2, g3, g4, bt⟩
      refine ⟨_, rfl, b, _, 0, _, rfl, rfl, .inl (.inl p.hb), rfl, _, _, rfl, rfl, _, rfl, ?_⟩
      refine ite2 (fun _ => ?_) (fun _ => ?_)
      · refine ⟨_, rfl, b, _, 0, _, rfl, rfl, .inl (.inl p.hb), rfl, .inl ⟨y0, rfl, _, rfl, _, _, rfl, rfl, m0, ?_⟩⟩
        refine ⟨_, rfl, b, _, 0, _, rfl, rfl, .inl (.inl p.hb), rfl, .inl ⟨y0, rfl, _, rfl, _, _, rfl, rfl, wide_div (b := 62) m0 (by omega) (by decide) (by decide), ?_⟩⟩
        refine ⟨_, rfl, b, _, 0, 0, rfl, rfl, p.hb, rfl, ?_⟩
        refine ⟨_, rfl, ?_⟩
        have pp := p.put (y0 / m) y1 y2
        exact q _ _ (Int.emod_nonneg _ (by omega)) (Int.emod_lt_of_pos _ m0) ⟨y0 / m, y1, y2, cs, pp.hb, pp.hl, h3, Int.ediv_nonneg g0 (by omega), g1, g2, g3, by omega, h9⟩ (bt.trans (But.upd _ _ _))
      · refine ⟨_, rfl, b, _, 1, _, rfl, rfl, .inl (.inl p.hb), rfl, _, _, rfl, rfl, _, _, rfl, rfl, .inr ⟨by decide, by decide⟩, .inl ⟨_, rfl, _, _, rfl, rfl, (by show (0 : Int) < 1000000007; decide), ?_⟩⟩
        generalize he : (y1 + 1) * 39373 % 1000000007 = e5
        have b5 : 0 ≤ e5 ∧ e5 < 1000000007 := by rw [← he]; exact ⟨Int.emod_nonneg _ (by decide), Int.emod_lt_of_pos _ (by decide)⟩
        refine ⟨_, rfl, _, rfl, _, _, rfl, rfl, .inl ⟨by omega, by omega⟩, .inl ⟨_, rfl, _, _, rfl, rfl, (by show (0 : Int) < 998244353; decide), _, _, rfl, rfl, .inr ⟨by decide, by decide⟩, .inl ⟨_, rfl, _, _, rfl, rfl, (by show (0 : Int) < 998244353; decide), ?_⟩⟩⟩
        refine ⟨_, rfl, _, _, rfl, rfl, ⟨by decide, by decide⟩, .inl ⟨_, rfl, _, rfl, _, _, rfl, rfl, m0, ?_⟩⟩
        exact q _ _ (Int.emod_nonneg _ (by omega)) (Int.emod_lt_of_pos _ m0) ⟨y0, y1, y2, cs, p.hb, p.hl, h3, g0, g1, g2, g3, by omega, h9⟩ bt
end
end T77
/-! Kinds of values: is_whole, is_from_to, is_place. -/
namespace T77
open PySem PySem.Spec PyProof.Rows L2 Wk
abbrev sWhole : Stmt := top 9
abbrev sFromTo : Stmt := top 10
abbrev sPlace : Stmt := top 11
/-- an integer, no truth -/
def wholeB : V → Bool
  | .int _ => true
  | _ => false
def intB : V → Bool
  | .int _ => true
  | .bl _ => true
  | _ => false
def truthB : V → Bool
  | .bl _ => true
  | _ => false
/-- an integer from lo to hi -/
def fromToB (x : V) (lo hi : Int) : Bool := match x with
  | .int i => decide (lo ≤ i) && decide (i ≤ hi)
  | _ => false
theorem wholeB_of {x : V} : wholeB x = (intB x && !truthB x) := by cases x <;> rfl
theorem whole_int {x : V} (h : wholeB x = true) : ∃ i, x = .int i := by
  cases x <;> first | exact ⟨_, rfl⟩ | cases h
/-- any value of a kind that is known -/
structure AnyV (K : PySem.W.Frag) (H : Hp) (x : V) (t : Value) : Prop where
  ty : TyX K H x t
  int : PySem.W.kitOne K t (.type "int") = some (intB x)
  bl : PySem.W.kitOne K t (.type "bool") = some (truthB x)
section
variable {K : PySem.W.Frag} {H : Hp}
theorem any_int (i : Int) : AnyV K H (.int i) (.type "int") := ⟨.base (.int i), kit_ty (r := true) (by decide +kernel), kit_ty (r := false) (by decide +kernel)⟩
theorem any_bl (b : Bool) : AnyV K H (.bl b) (.type "bool") := ⟨.base (.bl b), kit_ty (r := true) (by decide +kernel), kit_ty (r := true) (by decide +kernel)⟩
theorem any_non : AnyV K H .non (.type "NoneType") := ⟨.base .non, kit_ty (r := false) (by decide +kernel), kit_ty (r := false) (by decide +kernel)⟩
theorem any_str (x : Str) : AnyV K H (.str x) (.type "str") := ⟨.base (.str x), kit_ty (r := false) (by decide +kernel), kit_ty (r := false) (by decide +kernel)⟩
theorem any_lst {a : Addr} {xs : List V} (h : H a = some (.lst xs)) : AnyV K H (.ref a) (.type "list") := ⟨.base (.lst h), kit_ty (r := false) (by decide +kernel), kit_ty (r := false) (by decide +kernel)⟩
theorem any_tup {a : Addr} {xs : List V} (h : H a = some (.tup xs)) : AnyV K H (.ref a) (.type "tuple") := ⟨.base (.tup h), kit_ty (r := false) (by decide +kernel), kit_ty (r := false) (by decide +kernel)⟩
end
def spWhole (K : PySem.W.Frag) : Sp := fun vs H Q _ => ∃ x t, vs = [x] ∧ AnyV K H x t ∧ Q (.bl (wholeB x)) H
def spFromTo (K : PySem.W.Frag) : Sp := fun vs H Q _ => ∃ x t lo hi, vs = [x, .int lo, .int hi] ∧ AnyV K H x t ∧ Q (.bl (fromToB x lo hi)) H
def spPlace (K : PySem.W.Frag) : Sp := fun vs H Q _ => ∃ x t n, vs = [x, .int n] ∧ AnyV K H x t ∧ Q (.bl (fromToB x 0 (n - 1))) H
theorem scW : FnScope ["thing"] ["thing"] (defScope sWhole) := ⟨rfl, rfl, rfl, by decide +kernel, rfl, by decide +kernel, by decide +kernel⟩
theorem scF : FnScope ["thing", "low", "high"] ["thing", "low", "high"] (defScope sFromTo) := ⟨rfl, rfl, rfl, by decide +kernel, rfl, by decide +kernel, by decide +kernel⟩
theorem scP : FnScope ["thing", "size"] ["thing", "size"] (defScope sPlace) := ⟨rfl, rfl, rfl, by decide +kernel, rfl, by decide +kernel, by decide +kernel⟩
section
variable {P : Program} {w : World} {K : PySem.W.Frag} {mg : Str → Option Value} {base : Heap}
theorem ok_whole {f : Addr} {fd : FuncData} {k : Nat} (F : Fun K "is_whole" "is_whole" sWhole f fd) (mi : mg "isinstance" = none) (mt : mg "int" = none) (mb : mg "bool" = none) : FnOk P w K mg base CX0 (k + 1) f fd ["thing"] (spWhole K) := by
  refine F.ok scW (fun vs H Q E h => ?_) (fun cdv A outer s H vs Q E hr h => ?_)
  · obtain ⟨x, t, rfl, _⟩ := h
    rfl
  · obtain ⟨x, t, rfl, a, q⟩ := h
    refine ⟨_, pss_one (ps_ret (pe_and (pe_callB call_isi (by rfl) mi (by decide +kernel) (pa_cons (pv 0) (pa_cons (pe_bltn (v := .ty "int") (u := .type "int") (by rfl) mt (by decide +kernel) rfl) pa_nil)))
      (pe_one (pe_not (pe_callB call_isi (by rfl) mi (by decide +kernel) (pa_cons (pv 0) (pa_cons (pe_bltn (v := .ty "bool") (u := .type "bool") (by rfl) mb (by decide +kernel) rfl) pa_nil))))))), ?_⟩
    refine ⟨x, rfl, x, _, _, _, _, rfl, .ty "int", a.ty, a.int, intB x, rfl, ?_⟩
    rw [wholeB_of] at q
    cases hi : intB x with
    | false => rw [hi] at q; exact q
    | true =>
      rw [hi] at q
      exact ⟨x, rfl, x, _, _, _, _, rfl, .ty "bool", a.ty, a.bl, truthB x, rfl, q⟩
theorem ok_fromTo {f fw : Addr} {fd fdw : FuncData} {k : Nat} (F : Fun K "is_from_to" "is_from_to" sFromTo f fd) (GW : FnOk P w K mg base CX0 k fw fdw ["thing"] (spWhole K)) (gW : mg "is_whole" = some (.ref fw)) (kW : PySem.W.keepIn K (.ref fw) = true)
    (bW : Binds K fdw ["thing"] []) : FnOk P w K mg base CX0 (k + 1) f fd ["thing", "low", "high"] (spFromTo K) := by
  refine F.ok scF (fun vs H Q E h => ?_) (fun cdv A outer s H vs Q E hr h => ?_)
  · obtain ⟨x, t, lo, hi, rfl, _⟩ := h
    rfl
  · obtain ⟨x, t, lo, hi, rfl, a, q⟩ := h
    refine ⟨_, pss_one (ps_ret (pe_and (pe_call GW hr rfl gW kW bW .nil pass0 (pa_cons (pv 0) pa_nil)) (pe_one (pe_chain op_le op_le (pv 1) (pv 0) (pv 2))))), ?_⟩
    refine ⟨x, rfl, x, t, rfl, a, wholeB x, rfl, ?_⟩
    cases hw : wholeB x with
    | false =>
      have e : fromToB x lo hi = false := by cases x <;> first | rfl | cases hw
      rw [e] at q
      exact q
    | true =>
      obtain ⟨i, rfl⟩ := whole_int hw
      refine ⟨_, rfl, _, rfl, lo, i, rfl, rfl, _, rfl, ?_⟩
      have e : fromToB (.int i) lo hi = (decide (lo ≤ i) && decide (i ≤ hi)) := rfl
      rw [e] at q
      by_cases h1 : lo ≤ i
      · rw [if_pos (by simpa using h1)]
        rw [decide_eq_true h1, Bool.true_and] at q
        exact ⟨_, rfl, i, hi, rfl, rfl, q⟩
      · rw [if_neg (by simpa using h1)]
        rw [decide_eq_false h1, Bool.false_and] at q
        exact q
theorem ok_place {f fw : Addr} {fd fdw : FuncData} {k : Nat} (F : Fun K "is_place" "is_place" sPlace f fd) (GW : FnOk P w K mg base CX0 k fw fdw ["thing", "low", "high"] (spFromTo K)) (gW : mg "is_from_to" = some (.ref fw)) (kW : PySem.W.keepIn K (.ref fw) = true)
    (bW : Binds K fdw ["thing", "low", "high"] []) : FnOk P w K mg base CX0 (k + 1) f fd ["thing", "size"] (spPlace K) := by
  refine F.ok scP (fun vs H Q E h => ?_) (fun cdv A outer s H vs Q E hr h => ?_)
  · obtain ⟨x, t, n, rfl, _⟩ := h
    rfl
  · obtain ⟨x, t, n, rfl, a, q⟩ := h
    refine ⟨_, pss_one (ps_ret (pe_call GW hr rfl gW kW bW .nil pass0 (pa_cons (pv 0) (pa_cons pe_int (pa_cons (pe_op op_sub (pv 1) pe_int) pa_nil))))), ?_⟩
    exact ⟨x, rfl, _, rfl, n, 1, rfl, rfl, x, t, 0, n - 1, rfl, a, q⟩
end
end T77
/-! Walks over a list or a tuple, whichever it is. -/
namespace Wk
open PySem PySem.Spec PyProof.Rows L2
/-- a list or a tuple -/
def SqS (K : PySem.W.Frag) (H : Hp) (a : Addr) (xs : List V) : Prop := SqL K H a xs ∨ SqT K H a xs
theorem SqS.ext {K : PySem.W.Frag} {H H' : Hp} {a : Addr} {xs : List V} (h : SqS K H a xs) (e : Ext H H') : SqS K H' a xs := h.elim (fun h => .inl (h.ext e)) fun h => .inr (h.ext e)
theorem walk_enumT {K : PySem.W.Frag} {a : Addr} {xs : List V} : Walk (IteT K a) xs.length (fun H => SqT K H a xs) (YPair (fun i => some (.int (i : Nat))) (fun i => xs[i]?)) := by
  refine ⟨fun i _ hi q => ⟨xs, xs[i], q, by simp [hi]⟩, fun _ q => ⟨xs, q, rfl⟩, fun i H v H' _ q y => ?_⟩
  obtain ⟨T, x, h1, h2, h3, h4⟩ := y
  exact ⟨T, .int (i : Nat), x, h1, h2, h3, rfl, h4 xs q⟩
/-- R of any walk of this kind that goes on while the object at a stays -/
def OnWalk (a : Addr) (n : Nat) (Y : Nat → Hp → V → Hp → Prop) (R : It → Hp → Prop) (H1 : Hp) : Prop := ∀ (J : It) (G : Hp → Prop), Walk J n G Y → (∀ H2, (∀ o, H1 a = some o → H2 a = some o) → G H2) → R J H1
theorem SqT.stay {K : PySem.W.Frag} {H H' : Hp} {a : Addr} {xs : List V} (h : SqT K H a xs) (e : ∀ o, H a = some o → H' a = some o) : SqT K H' a xs :=
  h.elim (fun h => .inl (h.elim (fun h => .inl (e _ h)) fun ⟨o, h⟩ => .inr ⟨o, e _ h⟩)) fun h => .inr h
theorem SqL.stay {K : PySem.W.Frag} {H H' : Hp} {a : Addr} {xs : List V} (h : SqL K H a xs) (e : ∀ o, H a = some o → H' a = some o) : SqL K H' a xs :=
  h.elim (fun h => .inl (h.elim (fun h => .inl (e _ h)) fun ⟨o, h⟩ => .inr ⟨o, e _ h⟩)) fun h => .inr h
def iEnumW (K : PySem.W.Frag) (ta : TA) : TI := fun σ H R => ta σ H fun vs H1 => ∃ a xs, vs = [.ref a] ∧ SqS K H1 a xs ∧ OnWalk a xs.length (YPair (fun i => some (.int (i : Nat))) (fun i => xs[i]?)) R H1
def iSeqW (K : PySem.W.Frag) (te : TE) : TI := fun σ H R => te σ H fun v H1 => ∃ a xs, v = .ref a ∧ SqS K H1 a xs ∧ OnWalk a xs.length (YAt xs) R H1
section
variable {X : Cx} {e : Expr} {ta : TA} {te : TE} {p pos tpos : Pos} {elts : List Expr} {kk : Nat} {tg : Expr}
theorem PI.weak {wi wi' : TI} (h : PI X tg e wi) (hw : ∀ σ H R, wi' σ H R → wi σ H R) : PI X tg e wi' := ⟨fun pins s σ H R I q => h.run pins s σ H R I (hw σ H R q)⟩
theorem pi_enumW (hg : Gl X "enumerate") (hm : X.mg "enumerate" = none) (hmono : ∀ (σ : L2.St) (H : Hp) (Q Q' : List V → Hp → Prop), (∀ vs H1, Q vs H1 → Q' vs H1) → ta σ H Q → ta σ H Q') (ha : PA X [e] ta) (hs : starEach [e] X.env = [(false, eval e X.env)] := by rfl) :
    PI X (.Tuple elts kk tpos) (.Call (.Name "enumerate" p) [e] [] pos) (iEnumW X.K ta) :=
  PI.weak (pi_enumS hg hm ha hs) fun σ H R q => hmono σ H _ _ (fun vs H1 z => by
    obtain ⟨a, xs, e, hq | hq, w⟩ := z
    · exact ⟨a, xs, e, .inl ⟨hq, w _ _ walk_enum fun H2 x => SqL.stay hq x⟩⟩
    · exact ⟨a, xs, e, .inr ⟨hq, w _ _ walk_enumT fun H2 x => SqT.stay hq x⟩⟩) q
theorem pi_seqW (he : PE X e te) : PI X tg e (iSeqW X.K te) := by
  refine ⟨fun pins s σ H R I h => ?_⟩
  refine thn (he.run pins s σ H _ I h) fun v s1 ⟨x, H1, I1, r1, q1⟩ => ?_
  obtain ⟨a, xs, rfl, hq, q⟩ := q1
  cases (show v = Value.ref a from r1)
  have fp : ∀ b ∈ [s1.heap.objs.size], FpOk X pins H1 b := fun b hb => by
    cases List.mem_singleton.mp hb
    exact I1.fpOk (Nat.le_refl _) (I1.hok.fresh (Nat.le_refl _))
  rcases hq with hq | hq
  · obtain ⟨its, rv, p, hz⟩ := I1.list hq
    exact wpAny_pyIter_list p.isList ⟨s1.heap.objs.size, [s1.heap.objs.size], _, _, H1, rfl, I1.kept (t' := s1.toks) fun b o e => Heap.get?_push_of_some _ e, turn_list a _, ⟨_, Heap.get?_push_size _ rfl, rfl, rfl⟩, fp, q _ _ walk_list fun H2 x => SqL.stay hq x⟩
  · obtain ⟨its, rv, p, hz⟩ := I1.tuple hq
    exact wpAny_pyIter_tuple (show s1.heap.IsTuple a its.toArray from p) ⟨s1.heap.objs.size, [s1.heap.objs.size], _, _, H1, rfl, I1.kept (t' := s1.toks) fun b o e => Heap.get?_push_of_some _ e, turn_tuple a _, ⟨_, Heap.get?_push_size _ rfl, rfl, rfl⟩, fp, q _ _ walk_tup fun H2 x => SqT.stay hq x⟩
end
/-- the type of a list or tuple, for isinstance -/
theorem SqT.tyX {K : PySem.W.Frag} {H : Hp} {a : Addr} {xs : List V} (h : SqT K H a xs) : TyX K H (.ref a) (.type "tuple") := by
  rcases h with (h | ⟨o, h⟩) | ⟨o, its, n, h, hc, _⟩
  · exact .base (.tup h)
  · exact .fTuple h
  · exact .kTuple h hc
theorem SqL.tyX {K : PySem.W.Frag} {H : Hp} {a : Addr} {xs : List V} (h : SqL K H a xs) : TyX K H (.ref a) (.type "list") := by
  rcases h with (h | ⟨o, h⟩) | ⟨o, its, n, h, hc, _⟩
  · exact .base (.lst h)
  · exact .base (.frz h)
  · exact .kList h hc
end Wk
/-! Pairs, ties, the constructor's arguments. -/
namespace T77
open PySem PySem.Spec PyProof.Rows L2 Wk
abbrev sPair : Stmt := top 16
abbrev sTie : Stmt := top 17
abbrev sNeed : Stmt := top 18
/-- two different places below n -/
def pairB (y z : V) (n : Int) : Bool := fromToB y 0 (n - 1) && (fromToB z 0 (n - 1) && !decide (y = z))
def tieB (u v m n : Int) : Bool := pairB (.int u) (.int v) n && fromToB (.int m) 0 1000000000
theorem fromTo_int {x : V} {lo hi : Int} (h : fromToB x lo hi = true) : ∃ i, x = .int i ∧ lo ≤ i ∧ i ≤ hi := by
  cases x <;> first | (cases h; done) | (simp only [fromToB, Bool.and_eq_true, decide_eq_true_eq] at h; exact ⟨_, rfl, h⟩)
theorem tieB_iff {u v m n : Int} : tieB u v m n = true ↔ 0 ≤ u ∧ u < n ∧ 0 ≤ v ∧ v < n ∧ u ≠ v ∧ 0 ≤ m ∧ m ≤ 1000000000 := by
  simp only [tieB, pairB, fromToB, Bool.and_eq_true, decide_eq_true_eq, Bool.not_eq_true', decide_eq_false_iff_not]
  constructor
  · rintro ⟨⟨⟨h1, h2⟩, ⟨h3, h4⟩, h5⟩, h6, h7⟩
    exact ⟨h1, by omega, h3, by omega, fun e => h5 (by rw [e]), h6, h7⟩
  · rintro ⟨h1, h2, h3, h4, h5, h6, h7⟩
    exact ⟨⟨⟨h1, by omega⟩, ⟨h3, by omega⟩, fun e => h5 (by injection e)⟩, h6, h7⟩
/-- a tuple of these three numbers -/
def Tr (K : PySem.W.Frag) (H : Hp) (x : V) (u v m : Int) : Prop := ∃ t, x = .ref t ∧ SqT K H t [.int u, .int v, .int m]
theorem Tr.same {K : PySem.W.Frag} {H H' : Hp} {x : V} {u v m : Int} (h : Tr K H x u v m) (s : Same H H') : Tr K H' x u v m := let ⟨t, e, q⟩ := h; ⟨t, e, q.ext s⟩
/-- items of ties: the values xs are these triples -/
def Trs (K : PySem.W.Frag) (H : Hp) : List V → List (Int × Int × Int) → Prop
  | [], [] => True
  | x :: xs, p :: ps => Tr K H x p.1 p.2.1 p.2.2 ∧ Trs K H xs ps
  | _, _ => False
theorem Trs.same {K : PySem.W.Frag} {H H' : Hp} (s : Same H H') : ∀ {xs : List V} {ps : List (Int × Int × Int)}, Trs K H xs ps → Trs K H' xs ps
  | [], [], _ => True.intro
  | _ :: _, _ :: _, h => ⟨h.1.same s, Trs.same s h.2⟩
  | [], _ :: _, h => h.elim
  | _ :: _, [], h => h.elim
theorem Trs.length {K : PySem.W.Frag} {H : Hp} : ∀ {xs : List V} {ps : List (Int × Int × Int)}, Trs K H xs ps → xs.length = ps.length
  | [], [], _ => rfl
  | _ :: _, _ :: _, h => by rw [List.length_cons, List.length_cons, Trs.length h.2]
  | [], _ :: _, h => h.elim
  | _ :: _, [], h => h.elim
theorem Trs.get {K : PySem.W.Frag} {H : Hp} : ∀ {xs : List V} {ps : List (Int × Int × Int)} {i : Nat} {x : V}, Trs K H xs ps → xs[i]? = some x → ∃ p, ps[i]? = some p ∧ Tr K H x p.1 p.2.1 p.2.2
  | x :: _, p :: _, 0, _, h, e => by cases e; exact ⟨p, rfl, h.1⟩
  | _ :: _, _ :: _, i + 1, _, h, e => Trs.get (i := i) h.2 e
  | [], [], _, _, _, e => by simp at e
  | [], _ :: _, _, _, h, _ => h.elim
  | _ :: _, [], _, _, h, _ => h.elim
def spPair (K : PySem.W.Frag) : Sp := fun vs H Q _ => ∃ x t n b, vs = [x, .int n] ∧ TyX K H x t ∧ ((PySem.W.kitOne K t (.type "tuple") = some false ∧ b = false) ∨ (PySem.W.kitOne K t (.type "tuple") = some true ∧ ∃ a xs, x = .ref a ∧ SqT K H a xs ∧
  ((xs.length ≠ 2 ∧ b = false) ∨ ∃ y z ty tz, xs = [y, z] ∧ AnyV K H y ty ∧ AnyV K H z tz ∧ b = pairB y z n))) ∧ Q (.bl b) H
def spTie (K : PySem.W.Frag) : Sp := fun vs H Q _ => ∃ x n u v m, vs = [x, .int n] ∧ Tr K H x u v m ∧ ∀ H', Same H H' → Q (.bl (tieB u v m n)) H'
def spNeed (K : PySem.W.Frag) : Sp := fun vs H Q _ => ∃ n a xs ps, vs = [.int n, .ref a] ∧ 0 ≤ n ∧ n ≤ 60 ∧ SqS K H a xs ∧ Trs K H xs ps ∧ (∀ p ∈ ps, tieB p.1 p.2.1 p.2.2 n = true) ∧ ∀ H', Same H H' → Q .non H'
theorem scPr : FnScope ["thing", "size"] ["thing", "size"] (defScope sPair) := ⟨rfl, rfl, rfl, by decide +kernel, rfl, by decide +kernel, by decide +kernel⟩
theorem scTi : FnScope ["thing", "size"] ["thing", "size"] (defScope sTie) := ⟨rfl, rfl, rfl, by decide +kernel, rfl, by decide +kernel, by decide +kernel⟩
theorem scNe : FnScope ["size", "ties", "at", "tie"] ["size", "ties"] (defScope sNeed) := ⟨rfl, rfl, rfl, by decide +kernel, rfl, by decide +kernel, by decide +kernel⟩
theorem kit_tup {K : PySem.W.Frag} : PySem.W.kitOne K (.type "tuple") (.type "tuple") = some true := kit_ty (r := true) (by decide +kernel)
section
variable {P : Program} {w : World} {K : PySem.W.Frag} {mg : Str → Option Value} {base : Heap}
theorem ok_pair {f fw : Addr} {fd fdw : FuncData} {k : Nat} (F : Fun K "_is_pair" "_is_pair" sPair f fd) (GP : FnOk P w K mg base CX0 k fw fdw ["thing", "size"] (spPlace K)) (gP : mg "is_place" = some (.ref fw)) (kP : PySem.W.keepIn K (.ref fw) = true)
    (bP : Binds K fdw ["thing", "size"] []) (mi : mg "isinstance" = none) (mt : mg "tuple" = none) (ml : mg "len" = none) : FnOk P w K mg base CX0 (k + 1) f fd ["thing", "size"] (spPair K) := by
  refine F.ok scPr (fun vs H Q E h => ?_) (fun cdv A outer s H vs Q E hr h => ?_)
  · obtain ⟨x, t, n, b, rfl, _⟩ := h
    rfl
  · obtain ⟨x, t, n, b, rfl, ty, hb, q⟩ := h
    refine ⟨_, pss_cons (ps_if (PW.pt (pw_or (pt_not (pt_val (pe_callB call_isi (by rfl) mi (by decide +kernel) (pa_cons (pv 0) (pa_cons (pe_bltn (v := .ty "tuple") (u := .type "tuple") (by rfl) mt (by decide +kernel) rfl) pa_nil)))))
        (pw_or1 (pt_cmpR op_ne (pe_callB call_len_seq (by rfl) ml PySem.boot_len (pa_cons (pv 0) pa_nil)) pe_int (nomark _))))) (pss_one (ps_ret pe_bl)) pss_nil)
      (pss_one (ps_ret (pe_and (pe_call GP hr rfl gP kP bP .nil pass0 (pa_cons (pe_ix ix_tup (pv 0) pe_int (fun _ _ => rfl)) (pa_cons (pv 1) pa_nil)))
        (pe_and (pe_call GP hr rfl gP kP bP .nil pass0 (pa_cons (pe_ix ix_tup (pv 0) pe_int (fun _ _ => rfl)) (pa_cons (pv 1) pa_nil)))
          (pe_one (pe_cmpR op_ne (pe_ix ix_tup (pv 0) pe_int (fun _ _ => rfl)) (pe_ix ix_tup (pv 0) pe_int (fun _ _ => rfl)) (nomark _))))))), ?_⟩
    rcases hb with ⟨hk, rfl⟩ | ⟨hk, a, xs, rfl, hS, hb⟩
    · exact ⟨x, rfl, x, _, _, _, _, rfl, .ty "tuple", ty, hk, false, rfl, q⟩
    · refine ⟨_, rfl, _, _, _, _, _, rfl, .ty "tuple", ty, hk, true, rfl, ?_⟩
      refine ⟨_, rfl, a, xs, rfl, .inr hS, rfl, _, rfl, ?_⟩
      rcases hb with ⟨hl, rfl⟩ | ⟨y, z, tyy, tz, rfl, ay, az, rfl⟩
      · have e : (!decide (V.int (xs.length : Int) = V.int 2)) = true := by
          simp only [Bool.not_eq_true', decide_eq_false_iff_not]
          intro z
          injection z with z
          exact hl (by omega)
        rw [e]
        exact q
      · have i0 : atI [y, z] 0 = some y := atI_nat (xs := [y, z]) (j := 0) rfl
        have i1 : atI [y, z] 1 = some z := atI_nat (xs := [y, z]) (j := 1) rfl
        have e : (!decide (V.int (([y, z] : List V).length : Int) = V.int 2)) = false := rfl
        rw [e]
        refine ⟨.ref a, rfl, a, _, 0, y, rfl, rfl, hS, i0, .int n, rfl, y, tyy, n, rfl, ay, fromToB y 0 (n - 1), rfl, ?_⟩
        unfold pairB at q
        cases h1 : fromToB y 0 (n - 1) with
        | false => rw [h1] at q; exact q
        | true =>
          rw [h1] at q
          refine ⟨.ref a, rfl, a, _, 1, z, rfl, rfl, hS, i1, .int n, rfl, z, tz, n, rfl, az, fromToB z 0 (n - 1), rfl, ?_⟩
          cases h2 : fromToB z 0 (n - 1) with
          | false => rw [h2] at q; exact q
          | true =>
            rw [h2] at q
            obtain ⟨i, rfl, _⟩ := fromTo_int h1
            obtain ⟨j, rfl, _⟩ := fromTo_int h2
            exact ⟨.ref a, rfl, a, _, 0, _, rfl, rfl, hS, i0, .ref a, rfl, a, _, 1, _, rfl, rfl, hS, i1, rfl, q⟩
theorem ok_tie {f fp ff : Addr} {fd fdp fdf : FuncData} {k : Nat} (F : Fun K "_is_tie" "_is_tie" sTie f fd) (GP : FnOk P w K mg base CX0 k fp fdp ["thing", "size"] (spPair K)) (gP : mg "_is_pair" = some (.ref fp)) (kP : PySem.W.keepIn K (.ref fp) = true)
    (bP : Binds K fdp ["thing", "size"] []) (GF : FnOk P w K mg base CX0 k ff fdf ["thing", "low", "high"] (spFromTo K)) (gF : mg "is_from_to" = some (.ref ff)) (kF : PySem.W.keepIn K (.ref ff) = true) (bF : Binds K fdf ["thing", "low", "high"] [])
    (mi : mg "isinstance" = none) (mt : mg "tuple" = none) (ml : mg "len" = none) (mm : ∃ t, mg "MOST_TIES" = some (.int 1000000000 t)) : FnOk P w K mg base CX0 (k + 1) f fd ["thing", "size"] (spTie K) := by
  obtain ⟨tm, mm⟩ := mm
  refine F.ok scTi (fun vs H Q E h => ?_) (fun cdv A outer s H vs Q E hr h => ?_)
  · obtain ⟨x, n, u, v, m, rfl, _⟩ := h
    rfl
  · obtain ⟨x, n, u, v, m, rfl, ⟨a, rfl, hS⟩, q⟩ := h
    refine ⟨_, pss_cons (ps_if (PW.pt (pw_or (pt_not (pt_val (pe_callB call_isi (by rfl) mi (by decide +kernel) (pa_cons (pv 0) (pa_cons (pe_bltn (v := .ty "tuple") (u := .type "tuple") (by rfl) mt (by decide +kernel) rfl) pa_nil)))))
        (pw_or1 (pt_cmpR op_ne (pe_callB call_len_seq (by rfl) ml PySem.boot_len (pa_cons (pv 0) pa_nil)) pe_int (nomark _))))) (pss_one (ps_ret pe_bl)) pss_nil)
      (pss_one (ps_ret (pe_and (pe_call GP hr rfl gP kP bP .nil pass0 (pa_cons (pe_slice sl_tupA (pv 0) po_none (po_some pe_int)) (pa_cons (pv 1) pa_nil)))
        (pe_one (pe_call GF hr rfl gF kF bF .nil pass0 (pa_cons (pe_ix ix_tup (pv 0) pe_int (fun _ _ => rfl)) (pa_cons pe_int (pa_cons (pe_glob (v := .int 1000000000) rfl mm ⟨_, rfl⟩) pa_nil)))))))), ?_⟩
    have i2 : atI [V.int u, V.int v, V.int m] 2 = some (.int m) := atI_nat (xs := [V.int u, V.int v, V.int m]) (j := 2) rfl
    refine ⟨_, rfl, _, _, _, _, _, rfl, .ty "tuple", Wk.SqT.tyX hS, kit_tup, true, rfl, ?_⟩
    refine ⟨_, rfl, a, _, rfl, .inr hS, rfl, _, rfl, ?_⟩
    refine ⟨.ref a, rfl, 2, rfl, a, _, rfl, hS, fun z => absurd z.2 (show ¬ (HT.sIx 3 3 (some 2) = 3) by decide), fun _ p hp => ?_⟩
    have sm : Same H (upd H p (.tup [.int u, .int v])) := same_upd hp
    refine ⟨.int n, rfl, .ref p, .type "tuple", n, pairB (.int u) (.int v) n, rfl, .base (.tup upd_same), .inr ⟨kit_tup, p, _, rfl, .inl (.inl upd_same), .inr ⟨.int u, .int v, _, _, rfl, any_int u, any_int v, rfl⟩⟩, _, rfl, ?_⟩
    unfold tieB at q
    cases h1 : pairB (.int u) (.int v) n with
    | false => rw [h1] at q; exact q _ sm
    | true =>
      rw [h1] at q
      exact ⟨.ref a, rfl, a, _, 2, _, rfl, rfl, hS.ext sm, i2, _, _, 0, 1000000000, rfl, any_int m, q _ sm⟩
theorem ok_need {f fp ff : Addr} {fd fdp fdf : FuncData} {k : Nat} (F : Fun K "_need_arguments" "_need_arguments" sNeed f fd) (GT : FnOk P w K mg base CX0 k fp fdp ["thing", "size"] (spTie K)) (gT : mg "_is_tie" = some (.ref fp)) (kT : PySem.W.keepIn K (.ref fp) = true)
    (bT : Binds K fdp ["thing", "size"] []) (GF : FnOk P w K mg base CX0 k ff fdf ["thing", "low", "high"] (spFromTo K)) (gF : mg "is_from_to" = some (.ref ff)) (kF : PySem.W.keepIn K (.ref ff) = true) (bF : Binds K fdf ["thing", "low", "high"] [])
    (mi : mg "isinstance" = none) (mt : mg "tuple" = none) (ml : mg "list" = none) (me : mg "enumerate" = none) (mm : ∃ t, mg "MOST_PLACES" = some (.int 60 t)) : FnOk P w K mg base CX0 (k + 1) f fd ["size", "ties"] (spNeed K) := by
  obtain ⟨tm, mm⟩ := mm
  refine F.ok scNe (fun vs H Q E h => ?_) (fun cdv A outer s H vs Q E hr h => ?_)
  · obtain ⟨n, a, xs, ps, rfl, _⟩ := h
    rfl
  · obtain ⟨n, a, xs, ps, rfl, n0, n1, hS, hT, hv, q⟩ := h
    refine ⟨_, pss_cons (ps_if (pt_not (pt_val (pe_call GF hr rfl gF kF bF .nil pass0 (pa_cons (pv 0) (pa_cons pe_int (pa_cons (pe_glob (v := .int 60) rfl mm ⟨_, rfl⟩) pa_nil)))))) (pss_one ps_never) pss_nil)
      (pss_cons (ps_if (pt_not (pt_val (pe_callB call_isiT (by rfl) mi (by decide +kernel) (pa_cons (pv 1) (pa_cons (pe_tup (pa_cons (pe_bltn (v := .ty "list") (u := .type "list") (by rfl) ml (by decide +kernel) rfl)
          (pa_cons (pe_bltn (v := .ty "tuple") (u := .type "tuple") (by rfl) mt (by decide +kernel) rfl) pa_nil))) pa_nil))))) (pss_one ps_never) pss_nil)
      (pss_one (ps_for PassesOwn.never rfl (pi_enumW (by rfl) me (fun σ H Q Q' h z => by obtain ⟨v, e, q⟩ := z; exact ⟨v, e, h _ _ q⟩) (pa_cons (pv 1) pa_nil)) (pg_tup rfl (pgs_cons (pg_name (i := 2) scNe.nd rfl (Or.inl rfl)) (pgs_cons (pg_name (i := 3) scNe.nd rfl (Or.inl rfl)) pgs_nil)))
        (pss_one (ps_if (pt_not (pt_val (pe_call GT hr rfl gT kT bT .nil pass0 (pa_cons (pv 3) (pa_cons (pv 0) pa_nil))))) (pss_one ps_never) pss_nil))))), ?_⟩
    have e1 : fromToB (.int n) 0 60 = true := by simp only [fromToB, Bool.and_eq_true, decide_eq_true_eq]; omega
    refine ⟨.int n, rfl, .int n, .type "int", 0, 60, rfl, any_int n, fromToB (.int n) 0 60, rfl, ?_⟩
    rw [e1]
    refine ⟨.ref a, rfl, (by show 2 ≤ sizeLine; decide), fun T nT => ?_⟩
    have sm : Same H (upd H T (.tup [.ty "list", .ty "tuple"])) := same_upd nT
    have hkind : ∃ t, TyX K (upd H T (.tup [.ty "list", .ty "tuple"])) (.ref a) t ∧ PySem.W.kitAny K t [.type "list", .type "tuple"] = some true := by
      rcases hS.ext sm with h | h
      · exact ⟨_, Wk.SqL.tyX h, kitAny_cons (b := true) (kit_ty (r := true) (by decide +kernel)) (fun z => by cases z) (fun _ => rfl)⟩
      · exact ⟨_, Wk.SqT.tyX h, kitAny_cons (b := false) (kit_ty (r := false) (by decide +kernel)) (fun _ => kitAny_cons (b := true) (kit_ty (r := true) (by decide +kernel)) (fun z => by cases z) (fun _ => rfl)) (fun z => by cases z)⟩
    obtain ⟨t, ty, hk⟩ := hkind
    refine ⟨_, T, _, t, _, true, rfl, upd_same, .cons (.ty "list") (.cons (.ty "tuple") .nil), ty, hk, true, rfl, ?_⟩
    refine ⟨.ref a, rfl, a, xs, rfl, hS.ext sm, fun J G W hG => ?_⟩
    refine for_it W (fun i σ H2 => (∃ v2 v3, σ = [some (.int n), some (.ref a), v2, v3]) ∧ Same (upd H T (.tup [.ty "list", .ty "tuple"])) H2) ⟨⟨_, _, rfl⟩, Same.refl _⟩ (fun i σ H2 _ p => hG H2 fun o z => p.2 _ _ z) ?_ ?_
    · rintro i x σ H2 H3 hi ⟨⟨v2, v3, rfl⟩, s2⟩ ⟨T2, x', y, rfl, nT2, rfl, hx, hy⟩
      obtain rfl : V.int (i : Int) = x' := Option.some.inj hx
      have s3 : Same (upd H T (.tup [.ty "list", .ty "tuple"])) (upd H2 T2 (.tup [.int (i : Int), y])) := s2.trans (same_upd nT2)
      obtain ⟨p, hp, htr⟩ := hT.get hy
      refine ⟨T2, _, rfl, .inl (.inl upd_same), rfl, ?_⟩
      refine ⟨_, _, rfl, _, _, rfl, ?_⟩
      refine ⟨rfl, y, rfl, .int n, rfl, y, n, _, _, _, rfl, htr.same (sm.trans s3), fun H4 s4 => ?_⟩
      rw [hv p (List.mem_of_getElem? hp)]
      exact ⟨true, rfl, ⟨_, _, rfl⟩, s3.trans s4⟩
    · rintro σ H2 ⟨⟨v2, v3, rfl⟩, s2⟩
      exact q H2 (sm.trans s2)
end
end T77
/-! The mathematics of bundles: triples (u, v, n) of two places and a number. -/
namespace T77
open PySem
abbrev T3 := Int × Int × Int
/-- the numbers at one pair, added up -/
def amt (l : List T3) (u v : Int) : Int := (l.map fun p => if p.1 = u ∧ p.2.1 = v then p.2.2 else 0).sum
theorem amt_nil {u v : Int} : amt [] u v = 0 := rfl
theorem amt_cons {p : T3} {l : List T3} {u v : Int} : amt (p :: l) u v = (if p.1 = u ∧ p.2.1 = v then p.2.2 else 0) + amt l u v := by simp [amt]
theorem amt_append {l m : List T3} {u v : Int} : amt (l ++ m) u v = amt l u v + amt m u v := by simp [amt]
theorem sum_perm {l m : List Int} (h : l.Perm m) : l.sum = m.sum := by
  induction h with
  | nil => rfl
  | cons x _ ih => simp [ih]
  | swap x y l => simp only [List.sum_cons]; omega
  | trans _ _ h1 h2 => exact h1.trans h2
theorem amt_perm {l m : List T3} (h : l.Perm m) {u v : Int} : amt l u v = amt m u v := sum_perm (h.map _)
theorem amt_zero {l : List T3} {u v : Int} (h : ∀ p ∈ l, ¬ (p.1 = u ∧ p.2.1 = v)) : amt l u v = 0 := by
  induction l with
  | nil => rfl
  | cons p l ih => rw [amt_cons, if_neg (h p List.mem_cons_self), ih fun q hq => h q (List.mem_cons_of_mem _ hq)]; rfl
theorem amt_nonneg {l : List T3} {u v : Int} (h : ∀ p ∈ l, 0 ≤ p.2.2) : 0 ≤ amt l u v := by
  induction l with
  | nil => exact Int.le_refl _
  | cons p l ih =>
    rw [amt_cons]
    have h1 := h p List.mem_cons_self
    have h2 := ih fun q hq => h q (List.mem_cons_of_mem _ hq)
    split <;> omega
/-- the lesser place first (as min and max tell them) -/
def norm (p : T3) : T3 := (if p.2.1 < p.1 then p.2.1 else p.1, if p.2.1 > p.1 then p.2.1 else p.1, p.2.2)
/-- ascending by the two places -/
def lt2 (p q : T3) : Prop := p.1 < q.1 ∨ (p.1 = q.1 ∧ p.2.1 < q.2.1)
def key (p q : T3) : Prop := p.1 = q.1 ∧ p.2.1 = q.2.1
theorem lt2.trans {p q r : T3} (a : lt2 p q) (b : lt2 q r) : lt2 p r := by unfold lt2 at *; omega
theorem lt2_irrefl {p q : T3} (h : lt2 p q) (k : key p q) : False := by unfold lt2 key at *; omega
/-- bundles of n places with these numbers of ties: ascending, none empty -/
structure TiesOf (n : Int) (am : Int → Int → Int) (T : List T3) : Prop where
  asc : T.Pairwise lt2
  mem : ∀ p ∈ T, 0 ≤ p.1 ∧ p.1 < p.2.1 ∧ p.2.1 < n ∧ 0 < p.2.2
  am : ∀ u v, amt T u v = am u v
theorem amt_mem {T : List T3} (h : T.Pairwise lt2) {p : T3} (hp : p ∈ T) : amt T p.1 p.2.1 = p.2.2 := by
  induction T with
  | nil => cases hp
  | cons q T ih =>
    obtain ⟨h1, h2⟩ := List.pairwise_cons.mp h
    rw [amt_cons]
    rcases List.mem_cons.mp hp with rfl | hp
    · rw [if_pos ⟨rfl, rfl⟩, amt_zero fun r hr k => lt2_irrefl (h1 r hr) ⟨k.1.symm, k.2.symm⟩]
      omega
    · rw [if_neg (show ¬ (q.1 = p.1 ∧ q.2.1 = p.2.1) from fun k => lt2_irrefl (h1 p hp) k), ih h2 hp]
      omega
theorem mem_amt {T : List T3} {u v : Int} (h : amt T u v ≠ 0) : ∃ p ∈ T, p.1 = u ∧ p.2.1 = v := by
  refine Classical.byContradiction fun c => h (amt_zero fun p hp k => c ⟨p, hp, k⟩)
theorem asc_ext : ∀ {T S : List T3}, T.Pairwise lt2 → S.Pairwise lt2 → (∀ p, p ∈ T ↔ p ∈ S) → T = S
  | [], [], _, _, _ => rfl
  | [], q :: S, _, _, h => by have := (h q).mpr List.mem_cons_self; cases this
  | p :: T, [], _, _, h => by have := (h p).mp List.mem_cons_self; cases this
  | p :: T, q :: S, hT, hS, h => by
    obtain ⟨t1, t2⟩ := List.pairwise_cons.mp hT
    obtain ⟨s1, s2⟩ := List.pairwise_cons.mp hS
    have e : p = q := by
      rcases List.mem_cons.mp ((h p).mp List.mem_cons_self) with e | m
      · exact e
      · rcases List.mem_cons.mp ((h q).mpr List.mem_cons_self) with e | m'
        · exact e.symm
        · exact (lt2_irrefl ((s1 p m).trans (t1 q m')) ⟨rfl, rfl⟩).elim
    subst e
    refine congrArg (p :: ·) (asc_ext t2 s2 fun r => ⟨fun m => ?_, fun m => ?_⟩)
    · rcases List.mem_cons.mp ((h r).mp (List.mem_cons_of_mem _ m)) with e | m'
      · subst e; exact (lt2_irrefl (t1 r m) ⟨rfl, rfl⟩).elim
      · exact m'
    · rcases List.mem_cons.mp ((h r).mpr (List.mem_cons_of_mem _ m)) with e | m'
      · subst e; exact (lt2_irrefl (s1 r m) ⟨rfl, rfl⟩).elim
      · exact m'
/-- there is just one such list -/
theorem TiesOf.eq {n n' : Int} {am am' : Int → Int → Int} {T S : List T3} (a : TiesOf n am T) (b : TiesOf n' am' S) (h : ∀ u v, am u v = am' u v) : T = S := by
  have half : ∀ {n n' : Int} {am am' : Int → Int → Int} {T S : List T3}, TiesOf n am T → TiesOf n' am' S → (∀ u v, am u v = am' u v) → ∀ p ∈ T, p ∈ S := fun {n n' am am' T S} a b h p hp => by
    have h1 := amt_mem a.asc hp
    have h2 : amt S p.1 p.2.1 = p.2.2 := by rw [b.am, ← h, ← a.am, h1]
    obtain ⟨q, hq, k1, k2⟩ := mem_amt (T := S) (u := p.1) (v := p.2.1) (by have := (a.mem p hp).2.2.2; omega)
    have h3 := amt_mem b.asc hq
    rw [k1, k2, h2] at h3
    have : q = p := Prod.ext k1 (Prod.ext k2 h3.symm)
    exact this ▸ hq
  exact asc_ext a.asc b.asc fun p => ⟨half a b h p, half b a (fun u v => (h u v).symm) p⟩
/-- one more triple, the list upside down -/
def putR : List T3 → T3 → List T3
  | [], p => [p]
  | q :: r, p => if q.1 = p.1 ∧ q.2.1 = p.2.1 then (p.1, p.2.1, q.2.2 + p.2.2) :: r else p :: q :: r
theorem putR_same {q p : T3} {r : List T3} (h : q.1 = p.1 ∧ q.2.1 = p.2.1) : putR (q :: r) p = (p.1, p.2.1, q.2.2 + p.2.2) :: r := if_pos h
theorem putR_new {q p : T3} {r : List T3} (h : ¬ (q.1 = p.1 ∧ q.2.1 = p.2.1)) : putR (q :: r) p = p :: q :: r := if_neg h
structure BInv (n : Int) (acc done : List T3) : Prop where
  desc : acc.Pairwise fun p q => lt2 q p
  am : ∀ u v, amt acc u v = amt done u v
  mem : ∀ p ∈ acc, 0 ≤ p.1 ∧ p.1 < p.2.1 ∧ p.2.1 < n ∧ 0 ≤ p.2.2
  head : ∀ q ∈ acc, ∃ p ∈ done, key p q
theorem BInv.nil {n : Int} : BInv n [] [] := ⟨.nil, fun _ _ => rfl, fun p hp => (by cases hp), fun p hp => (by cases hp)⟩
theorem BInv.put {n : Int} {acc done : List T3} {p : T3} (b : BInv n acc done) (hp : 0 ≤ p.1 ∧ p.1 < p.2.1 ∧ p.2.1 < n ∧ 0 ≤ p.2.2) (hd : ∀ d ∈ done, lt2 d p ∨ key d p) : BInv n (putR acc p) (done ++ [p]) := by
  have am1 : ∀ u v, amt [p] u v = if p.1 = u ∧ p.2.1 = v then p.2.2 else 0 := fun u v => by rw [amt_cons, amt_nil]; omega
  match acc, b with
  | [], b =>
    refine ⟨List.pairwise_singleton .., fun u v => ?_, fun q hq => ?_, fun q hq => ⟨p, by simp, by cases List.mem_singleton.mp hq; exact ⟨rfl, rfl⟩⟩⟩
    · rw [amt_append, ← b.am]; show amt [p] u v = _; rw [amt_nil]; omega
    · cases List.mem_singleton.mp hq; exact hp
  | q :: r, b =>
    obtain ⟨d1, d2⟩ := List.pairwise_cons.mp b.desc
    by_cases hk : q.1 = p.1 ∧ q.2.1 = p.2.1
    · rw [putR_same hk]
      have hq := b.mem q List.mem_cons_self
      refine ⟨List.pairwise_cons.mpr ⟨fun x hx => ?_, d2⟩, fun u v => ?_, fun x hx => ?_, fun x hx => ?_⟩
      · have := d1 x hx
        unfold lt2 at *
        dsimp only at *
        omega
      · rw [amt_append, ← b.am, amt_cons, amt_cons, am1]
        dsimp only
        rw [hk.1, hk.2]
        split <;> omega
      · rcases List.mem_cons.mp hx with rfl | hx
        · exact ⟨hp.1, hp.2.1, hp.2.2.1, by dsimp only; omega⟩
        · exact b.mem x (List.mem_cons_of_mem _ hx)
      · rcases List.mem_cons.mp hx with rfl | hx
        · exact ⟨p, by simp, rfl, rfl⟩
        · obtain ⟨y, hy, k⟩ := b.head x (List.mem_cons_of_mem _ hx)
          exact ⟨y, by simp [hy], k⟩
    · rw [putR_new hk]
      have ql : lt2 q p := by
        obtain ⟨y, hy, k⟩ := b.head q List.mem_cons_self
        have := hd y hy
        unfold lt2 key at *
        omega
      refine ⟨List.pairwise_cons.mpr ⟨fun x hx => ?_, b.desc⟩, fun u v => ?_, fun x hx => ?_, fun x hx => ?_⟩
      · rcases List.mem_cons.mp hx with rfl | hx
        · exact ql
        · exact (d1 x hx).trans ql
      · rw [amt_append, ← b.am, amt_cons (p := p), am1]
        omega
      · rcases List.mem_cons.mp hx with rfl | hx
        · exact hp
        · exact b.mem x hx
      · rcases List.mem_cons.mp hx with rfl | hx
        · exact ⟨x, by simp, rfl, rfl⟩
        · obtain ⟨y, hy, k⟩ := b.head x hx
          exact ⟨y, by simp [hy], k⟩
theorem amt_pos {l : List T3} {u v : Int} (h : ∀ p ∈ l, 0 ≤ p.2.2) : amt (l.filter fun p => decide (0 < p.2.2)) u v = amt l u v := by
  induction l with
  | nil => rfl
  | cons p l ih =>
    have ih := ih fun q hq => h q (List.mem_cons_of_mem _ hq)
    have h0 := h p List.mem_cons_self
    by_cases hp : 0 < p.2.2
    · rw [List.filter_cons_of_pos (by simpa using hp), amt_cons, amt_cons, ih]
    · rw [List.filter_cons_of_neg (by simpa using hp), amt_cons, ih]
      split <;> omega
theorem BInv.done {n : Int} {acc done : List T3} (b : BInv n acc done) : TiesOf n (amt done) (acc.reverse.filter fun p => decide (0 < p.2.2)) := by
  refine ⟨List.Pairwise.filter _ (List.pairwise_reverse.mpr b.desc), fun p hp => ?_, fun u v => ?_⟩
  · obtain ⟨h1, h2⟩ := List.mem_filter.mp hp
    have := b.mem p (List.mem_reverse.mp h1)
    exact ⟨this.1, this.2.1, this.2.2.1, by simpa using h2⟩
  · rw [amt_pos fun p hp => (b.mem p (List.mem_reverse.mp hp)).2.2.2, amt_perm (List.reverse_perm acc), b.am]
/-- the order of the code is that of the places -/
theorem le2_of_code {B : Int} {p q : T3} (hp : TS.Bd B [p.1, p.2.1, p.2.2]) (hq : TS.Bd B [q.1, q.2.1, q.2.2]) (h : TS.code B [p.1, p.2.1, p.2.2] ≤ TS.code B [q.1, q.2.1, q.2.2]) : lt2 p q ∨ key p q := by
  by_cases h1 : q.1 < p.1
  · have := TS.code_lt (B := B) (r := [q.2.1, q.2.2]) (q := [p.2.1, p.2.2]) rfl hq.tail hp.tail h1
    omega
  · by_cases h2 : p.1 = q.1
    · by_cases h3 : q.2.1 < p.2.1
      · have a := TS.code_lt (B := B) (r := [q.2.2]) (q := [p.2.2]) rfl hq.tail.tail hp.tail.tail h3
        have b := (TS.code_same (B := B) (d := p.1) (r := [q.2.1, q.2.2]) (q := [p.2.1, p.2.2]) rfl).mpr a
        rw [h2] at b h
        omega
      · unfold lt2 key; omega
    · unfold lt2 key; omega
end T77
/-! The bundles of items of ties. -/
namespace T77
open PySem PySem.Spec PyProof.Rows L2 Wk
abbrev sBundles : Stmt := top 20
abbrev sBounds : Stmt := top 21
def spBounds (K : PySem.W.Frag) : Sp := fun vs H Q _ => ∃ D bs T, vs = [.ref D] ∧ H D = some (.lst bs) ∧ bs.length ≤ sizeLine ∧ Trs K H bs T ∧ (∀ p ∈ T, p.2.2 ≤ 1000000000) ∧ ∀ H', Same H H' → Q .non H'
def spBundles (K : PySem.W.Frag) : Sp := fun vs H Q _ => ∃ n a xs ps, vs = [.ref a] ∧ n ≤ 60 ∧ SqS K H a xs ∧ Trs K H xs ps ∧ ps.length < 4000 ∧ (∀ p ∈ ps, tieB p.1 p.2.1 p.2.2 n = true) ∧ (∀ u v, amt (ps.map norm) u v ≤ 1000000000) ∧
  ∀ H' t ys T, Same H H' → H t = none → H' t = some (.tup ys) → Trs K H' ys T → TiesOf n (amt (ps.map norm)) T → ys.length < 4000 → Q (.ref t) H'
theorem scBo : FnScope ["bundles", "bundle"] ["bundles"] (defScope sBounds) := ⟨rfl, rfl, rfl, by decide +kernel, rfl, by decide +kernel, by decide +kernel⟩
theorem scBu : FnScope ["ties", "bundles", "u", "v", "number", "goes_on", "ahead", "bundle"] ["ties"] (defScope sBundles) := ⟨rfl, rfl, rfl, by decide +kernel, rfl, by decide +kernel, by decide +kernel⟩
theorem Trs.append {K : PySem.W.Frag} {H : Hp} : ∀ {xs ys : List V} {ps qs : List T3}, Trs K H xs ps → Trs K H ys qs → Trs K H (xs ++ ys) (ps ++ qs)
  | [], _, [], _, _, h => h
  | _ :: _, _, _ :: _, _, g, h => ⟨g.1, Trs.append g.2 h⟩
  | [], _, _ :: _, _, g, _ => g.elim
  | _ :: _, _, [], _, g, _ => g.elim
theorem Trs.take {K : PySem.W.Frag} {H : Hp} : ∀ {xs : List V} {ps : List T3} (i : Nat), Trs K H xs ps → Trs K H (xs.take i) (ps.take i)
  | _, _, 0, _ => True.intro
  | _ :: _, _ :: _, i + 1, h => ⟨h.1, Trs.take i h.2⟩
  | [], [], _ + 1, _ => True.intro
  | [], _ :: _, _ + 1, h => h.elim
  | _ :: _, [], _ + 1, h => h.elim
theorem Trs.reverse {K : PySem.W.Frag} {H : Hp} : ∀ {xs : List V} {ps : List T3}, Trs K H xs ps → Trs K H xs.reverse ps.reverse
  | [], [], _ => True.intro
  | _ :: _, _ :: _, h => by
    rw [List.reverse_cons, List.reverse_cons]
    exact Trs.append (Trs.reverse h.2) ⟨h.1, True.intro⟩
  | [], _ :: _, h => h.elim
  | _ :: _, [], h => h.elim
theorem Trs.perm {K : PySem.W.Frag} {H : Hp} {xs ys : List V} (h : ys.Perm xs) : ∀ {ps : List T3}, Trs K H xs ps → ∃ qs, qs.Perm ps ∧ Trs K H ys qs := by
  induction h with
  | nil => exact fun {ps} t => ⟨ps, .refl _, t⟩
  | @cons x l1 l2 _ ih =>
    intro ps t
    cases ps with
    | nil => exact t.elim
    | cons p ps =>
      obtain ⟨qs, h1, h2⟩ := ih t.2
      exact ⟨p :: qs, h1.cons p, t.1, h2⟩
  | swap x y l =>
    intro ps t
    cases ps with
    | nil => exact t.elim
    | cons p ps =>
      cases ps with
      | nil => exact t.2.elim
      | cons r ps => exact ⟨r :: p :: ps, .swap p r ps, t.2.1, t.1, t.2.2⟩
  | trans _ _ h1 h2 =>
    intro ps t
    obtain ⟨qs, a1, a2⟩ := h2 t
    obtain ⟨rs, b1, b2⟩ := h1 a2
    exact ⟨rs, b1.trans a1, b2⟩
theorem Tr.tupI {K : PySem.W.Frag} {H : Hp} {x : V} {u v m : Int} (h : Tr K H x u v m) : TupI K H x [u, v, m] := h
theorem Trs.order {K : PySem.W.Frag} {H : Hp} {B : Int} : ∀ {xs : List V} {ps : List T3}, Trs K H xs ps → (∀ p ∈ ps, TS.Bd B [p.1, p.2.1, p.2.2]) → xs.Pairwise (fun x y => ∀ n m, TupI K H x n → TupI K H y m → TS.code B n ≤ TS.code B m) →
    ps.Pairwise fun p q => lt2 p q ∨ key p q
  | [], [], _, _, _ => .nil
  | x :: xs, p :: ps, h, hb, hp => by
    obtain ⟨p1, p2⟩ := List.pairwise_cons.mp hp
    refine List.pairwise_cons.mpr ⟨fun q hq => ?_, Trs.order h.2 (fun q hq => hb q (List.mem_cons_of_mem _ hq)) p2⟩
    obtain ⟨i, hi, e⟩ := List.mem_iff_getElem.mp hq
    have hlt : i < xs.length := by rw [Trs.length h.2]; exact hi
    obtain ⟨q', e', tq⟩ := Trs.get h.2 (List.getElem?_eq_getElem hlt)
    rw [List.getElem?_eq_getElem hi, e] at e'
    cases e'
    exact le2_of_code (hb p List.mem_cons_self) (hb q (List.mem_cons_of_mem _ hq)) (p1 _ (List.getElem_mem hlt) _ _ h.1.tupI tq.tupI)
  | [], _ :: _, h, _, _ => h.elim
  | _ :: _, [], h, _, _ => h.elim
theorem SqT.but {K : PySem.W.Frag} {H H' : Hp} {D t : Addr} {bs xs : List V} (hD : H D = some (.lst bs)) (h : SqT K H t xs) (b : But D H H') : SqT K H' t xs := by
  rcases h with (h | ⟨o, h⟩) | h
  · exact .inl (.inl (b t _ (fun e => by rw [e, hD] at h; cases h) h))
  · exact .inl (.inr ⟨o, b t _ (fun e => by rw [e, hD] at h; cases h) h⟩)
  · exact .inr h
theorem Trs.but {K : PySem.W.Frag} {H H' : Hp} {D : Addr} {bs : List V} (hD : H D = some (.lst bs)) (b : But D H H') : ∀ {xs : List V} {ps : List T3}, Trs K H xs ps → Trs K H' xs ps
  | [], [], _ => True.intro
  | _ :: _, _ :: _, h => ⟨let ⟨t, e, q⟩ := h.1; ⟨t, e, SqT.but hD q b⟩, Trs.but hD b h.2⟩
  | [], _ :: _, h => h.elim
  | _ :: _, [], h => h.elim
theorem norm_ok {n : Int} {p : T3} (h : tieB p.1 p.2.1 p.2.2 n = true) : 0 ≤ (norm p).1 ∧ (norm p).1 < (norm p).2.1 ∧ (norm p).2.1 < n ∧ 0 ≤ (norm p).2.2 ∧ (norm p).2.2 ≤ 1000000000 := by
  obtain ⟨h1, h2, h3, h4, h5, h6, h7⟩ := tieB_iff.mp h
  unfold norm
  dsimp only
  split <;> split <;> omega
section
variable {P : Program} {w : World} {K : PySem.W.Frag} {mg : Str → Option Value} {base : Heap}
theorem ok_bounds {f : Addr} {fd : FuncData} {k : Nat} (F : Fun K "_need_bounds" "_need_bounds" sBounds f fd) (ma : mg "any" = none) (mm : ∃ t, mg "MOST_TIES" = some (.int 1000000000 t)) : FnOk P w K mg base CX0 (k + 1) f fd ["bundles"] (spBounds K) := by
  obtain ⟨tm, mm⟩ := mm
  refine F.ok scBo (fun vs H Q E h => ?_) (fun cdv A outer s H vs Q E hr h => ?_)
  · obtain ⟨D, bs, T, rfl, _⟩ := h
    rfl
  · obtain ⟨a, bs, T, rfl, ha, hlen, hT, hv, q⟩ := h
    refine ⟨_, pss_one (ps_if (pt_val (pe_callB (cr_any rfl) (by rfl) ma (by decide +kernel) (pa_cons
      (pe_lc (own := [("bundle", 1)]) (g := gName 1) (tt := tYes) rfl scBo.nd (pi_list (pv 0)) (blkOk_by (N := ["bundles", "bundle"]) (sc := defScope sBounds) (by decide +kernel))
        (fun _ _ _ _ _ => pg_name (i := 1) scBo.nd rfl (Or.inl rfl)) (fun _ _ _ _ _ => pts_nil) (fun _ _ _ _ _ => pe_cmpR op_gt (pe_ix (r := rIxT K) ix_tup (pv 1) pe_int (fun _ _ => rfl)) (pe_glob (v := .int 1000000000) rfl mm ⟨_, rfl⟩) (nomark _))) pa_nil))) (pss_one ps_never) pss_nil), ?_⟩
    refine ⟨.ref a, rfl, a, rfl, ⟨bs, .inl (.inl ha)⟩, fun D nD => ?_⟩
    have haD : a ≠ D := ne_of_none ha nD
    refine lc_list (K := K) (a := a) (xs := bs) (fun i H2 => Ext H H2 ∧ H2 D = some (.lst ((List.replicate i false).map V.bl))) ?_ (fun i H2 _ h2 => .inl (.inl (h2.1 _ _ ha))) ?_ ?_
    · exact ⟨fun b o z => by rw [upd_ne (ne_of_none z nD)]; exact z, upd_same⟩
    · rintro i x H2 hx ⟨g1, g2⟩
      obtain ⟨p, hp, t, rfl, hS⟩ := hT.get hx
      have i2 : atI [V.int p.1, V.int p.2.1, V.int p.2.2] 2 = some (.int p.2.2) := atI_nat (xs := [V.int p.1, V.int p.2.1, V.int p.2.2]) (j := 2) rfl
      have le := hv p (List.mem_of_getElem? hp)
      refine ⟨rfl, .ref t, rfl, t, _, 2, _, rfl, rfl, hS.ext g1, i2, p.2.2, 1000000000, rfl, rfl, _, g2, ?_, ?_, ?_⟩
      · rw [List.length_map, List.length_replicate]
        exact Nat.lt_of_lt_of_le (List.getElem?_eq_some_iff.mp hx).1 hlen
      · intro b o z
        rw [upd_ne (ne_of_none z nD)]
        exact g1 b o z
      · have e : decide ((1000000000 : Int) < p.2.2) = false := decide_eq_false (by omega)
        rw [upd_same, List.replicate_succ', List.map_append]
        show some (HO.lst (_ ++ [V.bl (decide ((1000000000 : Int) < p.2.2))])) = _
        rw [e]
        rfl
    · rintro H2 ⟨g1, g2⟩
      refine ⟨D, _, rfl, .inl (.inl g2), _, rfl, ?_⟩
      have e : (List.replicate bs.length false).any id = false := by rw [List.any_replicate]; split <;> rfl
      rw [e]
      exact q H2 g1
end
end T77
/-! sorted of any number of tuples of ints: of a list of them, of a dict whose keys they are. -/
namespace Wk
open PySem PySem.Spec PyProof.Rows L2 SrtO
section
variable {prog : Program} {w : World} {A : Around} {E : Value → Shared → Prop} {s : Shared}
/-- the order of the tuples' codes, read at a heap -/
abbrev cLt (h : Heap) (B : Int) : Value → Value → Bool := fun v u => decide (TS.code B (TS.intsOf h v) < TS.code B (TS.intsOf h u))
theorem swo_code (h : Heap) (B : Int) : Swo (cLt h B) := by
  refine ⟨fun x y e => ?_, fun x y z e1 e2 => ?_⟩
  · have := of_decide_eq_true e
    exact decide_eq_false (by omega)
  · have a := of_decide_eq_false e1
    have b := of_decide_eq_false e2
    exact decide_eq_false (by omega)
theorem tups_sortable {a : Addr} {vs : List Value} {d : Nat} {B : Int} (h0 : 0 < vs.length) (hd : 1 ≤ d) (x : TS.TupsOk s.heap d B vs) (ha : ∀ o, s.heap.get? a = some o → o.cls ≠ .type "tuple") : SortableO prog w A s a vs (cLt s.heap B) := by
  intro h' keep
  have k' : ∀ b o, s.heap.get? b = some o → o.cls = .type "tuple" → h'.get? b = some o := fun b o e c => keep b o (fun z => by subst z; exact ha o e c) e
  have x' : TS.TupsOk h' d B vs := x.keeps k'
  obtain ⟨fs, k, hl, hi⟩ := TS.firsts_of hd vs x'
  refine ⟨tuples' true, fun Q E hq => ?_, ?_⟩
  · refine PySem.W.kat_kind (T := .type "int") k (by omega) (fun f hf => ?_) (by rfl) ?_
    · obtain ⟨n, t, rfl⟩ := hi f hf
      exact PySem.W.Looks.now
    · have e : (Value.type "int" != Value.type "tuple") = true := by first | decide +kernel | rfl | decide
      rw [e]
      exact hq
  · intro p q hp hq
    obtain ⟨ns, tp, lp, bp⟩ := x _ hp
    obtain ⟨ms, tq, lq, bq⟩ := x _ hq
    have e : (lt2 (cLt s.heap B) p q) = decide (TS.code B ns < TS.code B ms) := by
      show decide (TS.code B (TS.intsOf s.heap p.1) < TS.code B (TS.intsOf s.heap q.1)) = _
      rw [tp.ints, tq.ints]
    rw [e]
    obtain ⟨b, xs, e1, ⟨o, ho, hc, n, hdt⟩, i⟩ := tp.keeps k'
    obtain ⟨c, ys, e2, ⟨o', ho', hc', n', hdt'⟩, i'⟩ := tq.keeps k'
    rw [e1, e2]
    refine PySem.W.kat_lt ho hdt ho' hdt' ?_
    have sz : decide (xs.size < ys.size) = false := by
      have l1 := i.length
      have l2 := i'.length
      rw [Array.length_toList] at l1 l2
      exact decide_eq_false (by omega)
    rw [sz]
    exact TS.lex_ints 0 i i' (by omega) bp bq ⟨rfl, rfl⟩
theorem srtd_code {h : Heap} {B : Int} {l : List Value} (q : Srtd (cLt h B) l) : l.Pairwise fun u v => TS.code B (TS.intsOf h u) ≤ TS.code B (TS.intsOf h v) := by
  refine List.Pairwise.imp (fun {u v} e => ?_) q
  have := of_decide_eq_false e
  omega
/-- sorted(xs) of a list of tuples, any number of them -/
theorem sorted_tupsA {l : Addr} {vs : List Value} {d : Nat} {B : Int} {Q : Value → Shared → Prop} (hl : s.heap.IsList l vs.toArray) (hz : vs.length ≤ sizeLine) (hd : 1 ≤ d) (x : TS.TupsOk s.heap d B vs)
    (h : ∀ (h' : Heap) (p : Addr) (out : List Value), out.Perm vs → out.Pairwise (fun u v => TS.code B (TS.intsOf s.heap u) ≤ TS.code B (TS.intsOf s.heap v)) → (∀ b o, s.heap.get? b = some o → h'.get? b = some o) → s.heap.objs.size ≤ p →
      (∃ n, h'.get? p = some (seqObj "list" out.toArray n)) → Q (.ref p) { s with heap := h' }) :
    wpAny (model prog w) A (call (.builtin "sorted") [.ref l]) Q E s := by
  refine sorted_ord (swo_code s.heap B) hl hz (fun h2 h₁ a ha kk => ?_) fun out hs hb => ?_
  · have keep : ∀ b o, s.heap.get? b = some o → o.cls = .type "tuple" → h₁.get? b = some o := fun b o e _ => (kk b o e).2
    have q := tups_sortable (prog := prog) (w := w) (A := A.in1.in1) (s := { s with heap := h₁ }) (a := a) (vs := vs) (B := B) (by omega) hd (x.keeps keep) fun o e => by
      have e' : some o = some (seqObj "list" vs.toArray 0) := e.symm.trans ha
      cases e'
      intro c
      exact absurd (Value.type.inj c) (by decide)
    intro h' keep2
    obtain ⟨κ, k1, k2⟩ := q h' keep2
    refine ⟨κ, k1, fun p r hp hr => ?_⟩
    have z := k2 p r hp hr
    have e : lt2 (cLt h₁ B) p r = lt2 (cLt s.heap B) p r := by
      obtain ⟨ns, tp, _⟩ := x _ hp
      obtain ⟨ms, tq, _⟩ := x _ hr
      show decide (TS.code B (TS.intsOf h₁ p.1) < TS.code B (TS.intsOf h₁ r.1)) = decide (TS.code B (TS.intsOf s.heap p.1) < TS.code B (TS.intsOf s.heap r.1))
      rw [tp.ints, tq.ints, (tp.keeps keep).ints, (tq.keeps keep).ints]
    rw [← e]
    exact z
  · exact h _ _ out hb.perm (srtd_code hs) (fun b o e => sortedAll_old e) (Nat.le_succ _) (sortedAll_at s.heap vs out.toArray)
end
section
variable {X : Cx}
/-- sorted(xs), xs a list of tuples of d ints in [0, B), however many: a new list of the same, ascending by code B -/
def rSortUA (K : PySem.W.Frag) (d : Nat) (B : Int) : List V → Hp → VK → Prop := fun vs H Q => ∃ (a : Addr) (xs : List V), vs = [V.ref a] ∧ SqL K H a xs ∧ (∀ x ∈ xs, ∃ ns, TupI K H x ns ∧ ns.length = d ∧ TS.Bd B ns) ∧
  ∀ (ys : List V) (p : Addr), ys.Perm xs → ys.Pairwise (fun x y => ∀ n m, TupI K H x n → TupI K H y m → TS.code B n ≤ TS.code B m) → H p = none → Q (.ref p) (upd H p (.lst ys))
theorem cr_sortTA {d : Nat} {B : Int} (hd : 1 ≤ d) : CallR X (.builtin "sorted") (rSortUA X.K d B) := by
  intro pins s σ H vs us Q I r h
  obtain ⟨a, xs, rfl, hs, hx, q⟩ := h
  obtain ⟨its, rv, hl, hz⟩ := I.list hs
  rw [Vals.ref1 r]
  obtain ⟨e1, e2⟩ := bkV_refs rv fun x m => by
    obtain ⟨ns, ⟨t, e, _⟩, _⟩ := hx x m
    exact ⟨t, e⟩
  refine sorted_tupsA (d := d) (B := B) hl.isList (by rw [← rv.length]; exact hz) hd (fun v hv => ?_) fun h' p out h1 h2 k hp ⟨ep, he'⟩ => ?_
  · obtain ⟨t, rfl⟩ := e2 v hv
    have hm : V.ref t ∈ xs := by
      rw [e1]
      exact List.mem_map.mpr ⟨_, hv, rfl⟩
    obtain ⟨ns, ⟨t', e, ht⟩, hn, hb⟩ := hx _ hm
    cases e
    exact ⟨ns, tupI_raw I ht, hn, hb⟩
  · have h3 : ∀ u ∈ out, ∃ a, u = Value.ref a := fun u hu => e2 u (h1.mem_iff.mp hu)
    have hpm : (out.map bkV).Perm xs := by
      rw [e1]
      exact h1.map bkV
    have hlen : (out.map bkV).length ≤ sizeLine := by
      rw [hpm.length_eq]
      exact hz
    refine ⟨.ref _, upd H p (.lst (out.map bkV)), I.laid (t' := s.toks) k hp ⟨hlen, out, ep, bkV_vals h3, he'⟩, rfl, q _ _ hpm ?_ (I.hok.fresh hp)⟩
    rw [List.pairwise_map]
    refine List.Pairwise.imp (fun {u v} huv n m hn hm => ?_) h2
    obtain ⟨t, et, ht⟩ := hn
    obtain ⟨t', et', ht'⟩ := hm
    have eu := bkV_ref et
    have ev := bkV_ref et'
    have i1 : TS.intsOf s.heap u = n := by
      rw [eu]
      exact (tupI_raw I ht).ints
    have i2 : TS.intsOf s.heap v = m := by
      rw [ev]
      exact (tupI_raw I ht').ints
    rw [← i1, ← i2]
    exact huv
/-- sorted(d), d a dict whose keys are tuples of numbers, however many -/
def rSortDA (d : Nat) (B : Int) : List V → Hp → VK → Prop := fun vs H Q => ∃ (a : Addr) (kvs : List (List Key × V)) (ks : List (List Int)), vs = [V.ref a] ∧ H a = some (.dT kvs) ∧ kvs.map (·.1) = ks.map (·.map Sum.inl) ∧ ks.length ≤ sizeLine ∧
  (∀ n ∈ ks, n.length = d ∧ TS.Bd B n) ∧ ∀ (ys : List (Addr × List Int)) (p : Addr), (ys.map (·.2)).Perm ks → (ys.map (·.2)).Pairwise (fun n m => TS.code B n ≤ TS.code B m) → (∀ y ∈ ys, H y.1 = some (.tup (y.2.map V.int))) → H p = none →
    Q (.ref p) (upd H p (.lst (ys.map fun y => V.ref y.1)))
theorem call_sortedTDA {d : Nat} {B : Int} (hd1 : 1 ≤ d) (hc : X.calm = true) : CallR X (.builtin "sorted") (rSortDA d B) := by
  intro pins s σ H xs us Q I r q
  obtain ⟨a, kvs, ks, rfl, ha, hks, hfit, hB, q⟩ := q
  obtain ⟨u, rfl, rx⟩ := r.one
  cases rx
  obtain ⟨z, hs, xt, pr, o, es, ep, ho, hx, hdt, he, hn⟩ := (show ObjOk X.prog X.w H s.heap a (.dT kvs) from I.hok a _ ha)
  have l1 : es.size = xt.length := size_of_entries he
  have l2 : kvs.length = xt.length := Paired.length pr
  obtain ⟨L, L1, L2', L3⟩ := kT_ints pr hks
  have lL : L.length = ks.length := by rw [← L1, List.length_map]
  have lx : xt.length = L.length := by have := congrArg List.length L2'; rwa [List.length_map, List.length_map] at this
  refine Calls.call_function_entry PyProof.Rows.kind_sorted PyProof.Rows.plain_sorted PyProof.Rows.entry_sorted (PyProof.Rows.args_sorted1 _) ?_
  unfold Builtin.«sorted»
  refine wpAny_bind (m := checkCount "sorted" 1 1 _) (wpAny_pure ?_)
  refine wpAny_bind (PySem.W.kdu_collect (A := X.A.in1) (kdl_raw hs hx hdt) (I.ok.hd hc) ho (by omega) fun h' tk acc hk it => ?_)
  have ea : acc.toList = L.map fun y => Value.ref y.1 := by
    rw [← L2']
    have hl : acc.toList.length = xt.length := by rw [Array.length_toList, it.1]; exact l1
    refine List.ext_getElem? fun j => ?_
    rw [List.getElem?_map]
    cases hj : acc.toList[j]? with
    | none =>
      have h1 := List.getElem?_eq_none_iff.mp hj
      rw [List.getElem?_eq_none (by omega)]
      rfl
    | some v =>
      obtain ⟨en, hen, hv⟩ := it.2 j v (by rw [← Array.getElem?_toList]; exact hj)
      rw [entry_at he j] at hen
      obtain ⟨b, hb, e2⟩ := Option.map_eq_some_iff.mp hen
      rw [hb, hv, ← e2]
      rfl
  have I1 : Inv X pins σ H { s with heap := h', toks := tk } := I.kept hk
  have hal : acc.toList.length = ks.length := by rw [ea, List.length_map, lL]
  have tup : ∀ y ∈ L, TS.TupInts h' (.ref y.1) y.2 := fun y hy => tupI_raw I1 (.inl (.inl (L3 y hy)))
  refine wpAny_bind (wpAny_newList ?_ (by rw [hal]; exact hfit))
  have hoL : (h'.push (seqObj "list" acc.toList.toArray 0)).get? h'.objs.size = some (seqObj "list" acc.toList.toArray 0) := Heap.get?_push_size _ rfl
  show wpAny _ _ _ _ _ { s with heap := h'.push (seqObj "list" acc.toList.toArray 0), toks := tk }
  have keep : ∀ b o, h'.get? b = some o → o.cls = .type "tuple" → (h'.push (seqObj "list" acc.toList.toArray 0)).get? b = some o := fun b o e _ => Heap.get?_push_of_some _ e
  have ok : TS.TupsOk h' d B acc.toList := fun v hv => by
    rw [ea] at hv
    obtain ⟨y, hy, rfl⟩ := List.mem_map.mp hv
    have hm : y.2 ∈ ks := by rw [← L1]; exact List.mem_map.mpr ⟨y, hy, rfl⟩
    exact ⟨y.2, tup y hy, hB _ hm⟩
  refine wpAny_bind (wpAny_holding (wpAny_call_entry PyProof.Rows.slot_list_sort ⟨_, hoL, rfl⟩ PyProof.Rows.entry_list_sort
    (list_sort_ord (swo_code (h'.push (seqObj "list" acc.toList.toArray 0)) B) hoL (by rw [hal]; exact hfit) (fun h2 => tups_sortable (s := { s with heap := h'.push (seqObj "list" acc.toList.toArray 0), toks := tk }) (by omega) hd1 (ok.keeps keep) fun o e => by
      have e' : some o = some (seqObj "list" acc.toList.toArray 0) := e.symm.trans hoL
      cases e'
      intro c
      exact absurd (Value.type.inj c) (by decide)) fun out hs1 hb1 => ⟨_, rfl, ?_⟩) (PyProof.Rows.args_list_sort _)))
  have g1 := hb1.perm
  have g2 : out.Pairwise fun u v => TS.code B (TS.intsOf h' u) ≤ TS.code B (TS.intsOf h' v) := by
    refine List.Pairwise.imp_of_mem (fun {u v} hu hv e => ?_) (srtd_code hs1)
    obtain ⟨ns0, t0, _⟩ := ok u (g1.mem_iff.mp hu)
    obtain ⟨ms0, t1, _⟩ := ok v (g1.mem_iff.mp hv)
    rw [(t0.keeps keep).ints, (t1.keeps keep).ints] at e
    rw [t0.ints, t1.ints]
    exact e
  · obtain ⟨e', he'⟩ := PyProof.Rows.sortedHeap_at (vs := acc.toList) (out := out.toArray) hoL
    have un : ∀ y ∈ L, unref h' (Value.ref y.1) = y := fun y hy => by
      show (y.1, TS.intsOf h' (Value.ref y.1)) = y
      rw [(tup y hy).ints]
    have back : ∀ us : List Value, (∀ v ∈ us, ∃ y ∈ L, v = Value.ref y.1) → us = (us.map (unref h')).map (fun y => Value.ref y.1) := fun us hu => by
      rw [List.map_map]
      have : us.map (fun v => v) = us.map ((fun y => Value.ref y.1) ∘ unref h') := List.map_congr_left fun v hv => by
        obtain ⟨y, hy, rfl⟩ := hu v hv
        show Value.ref y.1 = Value.ref (unref h' (Value.ref y.1)).1
        rw [un y hy]
      rwa [List.map_id'] at this
    have hm : ∀ v ∈ out, ∃ y ∈ L, v = Value.ref y.1 := fun v hv => by
      have := g1.mem_iff.mp hv
      rw [ea] at this
      obtain ⟨y, hy, rfl⟩ := List.mem_map.mp this
      exact ⟨y, hy, rfl⟩
    have hL : (acc.toList.map (unref h')) = L := by
      rw [ea, List.map_map]
      have : L.map (unref h' ∘ fun y => Value.ref y.1) = L.map (fun y => y) := List.map_congr_left fun y hy => un y hy
      rw [this, List.map_id']
    have hp : (out.map (unref h')).Perm L := by
      have := g1.map (unref h')
      rwa [hL] at this
    have hlen : (((out.map (unref h')).map fun y => V.ref y.1)).length ≤ sizeLine := by
      rw [List.length_map, hp.length_eq, lL]
      exact hfit
    have hv : Vals ((out.map (unref h')).map fun y => V.ref y.1) out := by
      rw [refs_V]
      conv => rhs; rw [back _ hm]
      rw [refs_U]
      exact vals_refs _
    refine wpAny_pure ⟨_, rfl, .ref h'.objs.size, upd H h'.objs.size (.lst ((out.map (unref h')).map fun y => V.ref y.1)), I1.laid (t' := tk) (fun b u e => ?_) (Nat.le_refl _)
      (show ObjOk X.prog X.w _ _ _ (.lst ((out.map (unref h')).map fun y => V.ref y.1)) from ⟨hlen, out, e', hv, he'⟩), rfl, q _ _ ?_ ?_ ?_ (I1.hok.fresh (Nat.le_refl _))⟩
    · have hb : b < h'.objs.size := Heap.lt_size e
      rw [PyProof.Rows.sortedHeap_old (Nat.ne_of_lt hb) (by rw [size_push']; exact Nat.lt_succ_of_lt hb)]
      exact Heap.get?_push_of_some _ e
    · rw [← L1]
      exact hp.map _
    · rw [List.map_map, List.pairwise_map]
      refine g2.imp_of_mem fun {u v} hu hv h => ?_
      obtain ⟨y, hy, rfl⟩ := hm u hu
      obtain ⟨y', hy', rfl⟩ := hm v hv
      exact h
    · intro y hy
      exact L3 y (hp.mem_iff.mp hy)
end
end Wk
namespace T77
open PySem PySem.Spec PyProof.Rows L2 Wk
theorem eqv2 (a b c d : Int) : PyData.eqv (.tuple [.int a, .int b]) (.tuple [.int c, .int d]) = (decide (a = c) && decide (b = d)) := by
  have e : PyData.eqv (.tuple [.int a, .int b]) (.tuple [.int c, .int d]) = ((a == c) && ((b == d) && true)) := by
    first | rfl | kernel_rfl | (rw [PyData.eqv, PyData.eqvAll, PyData.eqvAll, PyData.eqvAll, PyData.eqv, PyData.eqv])
  rw [e, Bool.and_true]
  rfl
section
variable {P : Program} {w : World} {K : PySem.W.Frag} {mg : Str → Option Value} {base : Heap}
theorem ok_bundles {f fb : Addr} {fd fdb : FuncData} {k : Nat} (F : Fun K "_bundles" "_bundles" sBundles f fd) (GB : FnOk P w K mg base CX0 k fb fdb ["bundles"] (spBounds K)) (gB : mg "_need_bounds" = some (.ref fb)) (kB : PySem.W.keepIn K (.ref fb) = true) (bB : Binds K fdb ["bundles"] [])
    (ms : mg "sorted" = none) (mi : mg "min" = none) (mx : mg "max" = none) (mt : mg "tuple" = none) : FnOk P w K mg base CX0 (k + 1) f fd ["ties"] (spBundles K) := by
  refine F.ok scBu (fun vs H Q E h => ?_) (fun cdv A outer s H vs Q E hr h => ?_)
  · obtain ⟨n, a, xs, ps, rfl, _⟩ := h
    rfl
  · obtain ⟨n, a, xs, ps, rfl, hn, hS, hT, h64, hv, ham, q⟩ := h
    have hu := hu_of hr
    refine ⟨_, pss_cons (ps_set (i := 1) scBu.nd rfl (Or.inl rfl) (pe_lst pa_nil))
      (pss_cons (ps_for PassesOwn.never rfl (pi_list (pe_callB (cr_sortTA (d := 3) (B := 1000000001) (by decide)) (by rfl) ms (by decide +kernel) (pa_cons
          (pe_lc (own := [("u", 2), ("v", 3), ("number", 4)]) (g := gTup K 3 (gCons (gName 2) (gCons (gName 3) (gCons (gName 4) gNil)))) (tt := tYes) rfl scBu.nd (pi_seqW (pv 0)) (blkOk_by (N := ["ties", "bundles", "u", "v", "number", "goes_on", "ahead", "bundle"]) (sc := defScope sBundles) (by decide +kernel))
            (fun _ _ _ _ _ => pg_tup rfl (pgs_cons (pg_name (i := 2) scBu.nd rfl (Or.inl rfl)) (pgs_cons (pg_name (i := 3) scBu.nd rfl (Or.inl rfl)) (pgs_cons (pg_name (i := 4) scBu.nd rfl (Or.inl rfl)) pgs_nil))))
            (fun _ _ _ _ _ => pts_nil) (fun _ _ _ _ _ => pe_tup (pa_cons (pe_callB (call_min2 rfl) (by rfl) mi (by decide +kernel) (pa_cons (pv 2) (pa_cons (pv 3) pa_nil)))
              (pa_cons (pe_callB (call_max2 rfl) (by rfl) mx (by decide +kernel) (pa_cons (pv 2) (pa_cons (pv 3) pa_nil))) (pa_cons (pv 4) pa_nil))))) pa_nil)))
          (pg_tup rfl (pgs_cons (pg_name (i := 2) scBu.nd rfl (Or.inl rfl)) (pgs_cons (pg_name (i := 3) scBu.nd rfl (Or.inl rfl)) (pgs_cons (pg_name (i := 4) scBu.nd rfl (Or.inl rfl)) pgs_nil))))
        (pss_cons (ps_set (i := 5) scBu.nd rfl (Or.inl rfl) (pe_andT (pv 1) (pe_one (pe_cmpR (op_eqD hr.units) (pe_slice sl_tupA (pe_ix ix_list (pv 1) (pe_un un_neg pe_int) (fun _ _ => rfl)) po_none (po_some pe_int)) (pe_tup (pa_cons (pv 2) (pa_cons (pv 3) pa_nil))) (nomark _)))))
        (pss_cons (ps_set (i := 6) scBu.nd rfl (Or.inl rfl) (pe_ifExp (pt_truth (pv 5) (by intro _; rfl)) (pe_ix ix_tup (pe_bm0 PySem.F.plainAttrs_list PySem.F.slot_list_pop PySem.F.type_list_pop mt_pop (pv 1)) pe_int (fun _ _ => rfl)) pe_int))
        (pss_one (ps_expr (pe_bm PySem.F.plainAttrs_list PySem.F.slot_list_append PySem.F.type_list_append mt_append (pv 1) (pa_cons (pe_tup (pa_cons (pv 2) (pa_cons (pv 3) (pa_cons (pe_op op_add (pv 6) (pv 4)) pa_nil)))) pa_nil)))))))
      (pss_cons (ps_expr (pe_call GB hr rfl gB kB bB .nil pass0 (pa_cons (pv 1) pa_nil)))
      (pss_one (ps_ret (pe_callTy call_tuple_of (by rfl) mt (by decide +kernel) (pa_cons
        (pe_lc (own := [("bundle", 7)]) (g := gName 7) rfl scBu.nd (pi_list (pv 1)) (blkOk_by (N := ["ties", "bundles", "u", "v", "number", "goes_on", "ahead", "bundle"]) (sc := defScope sBundles) (by decide +kernel))
          (fun _ _ _ _ _ => pg_name (i := 7) scBu.nd rfl (Or.inl rfl)) (fun _ _ _ _ _ => pts_one (pt_cmpR op_gt (pe_ix (r := rIxT K) ix_tup (pv 7) pe_int (fun _ _ => rfl)) pe_int (nomark _))) (fun _ _ _ _ _ => pv 7)) pa_nil)))))), ?_⟩
    refine ⟨(by show 0 ≤ sizeLine; decide), fun D nD => ?_⟩
    have e1 : Ext H (upd H D (.lst [])) := same_upd nD
    -- the normal items
    refine ⟨.ref a, rfl, a, xs, rfl, hS.ext e1, fun J G W hG L nL => ?_⟩
    have nL0 : H L = none := Same.free e1 nL
    have hDL : D ≠ L := ne_of_none upd_same nL
    have hlen : xs.length = ps.length := hT.length
    refine lc_it W (fun i H2 => Ext (upd H D (.lst [])) H2 ∧ ∃ ys, H2 L = some (.lst ys) ∧ Trs K H2 ys ((ps.take i).map norm)) ⟨fun b o z => by rw [upd_ne (ne_of_none z nL)]; exact z, [], upd_same, True.intro⟩ (fun i H2 _ p => hG H2 fun o z => p.1 _ _ z) ?_ ?_
    · rintro i x H2 H3 hi ⟨g1, ys, g2, g3⟩ ⟨rfl, hx⟩
      obtain ⟨p, hp, t, rfl, hSt⟩ := hT.get hx
      have hys : ys.length = ((ps.take i).map norm).length := g3.length
      have hsz : ys.length < sizeLine := by rw [hys, List.length_map, List.length_take, sizeLine_eq]; omega
      refine ⟨t, _, rfl, hSt.ext (Ext.trans e1 g1), rfl, _, _, rfl, _, _, rfl, _, _, rfl, rfl, rfl, ?_⟩
      refine ⟨_, rfl, _, rfl, p.1, p.2.1, rfl, _, rfl, _, rfl, p.1, p.2.1, rfl, _, rfl, (by show 3 ≤ sizeLine; decide), fun T nT => ⟨ys, by rw [upd_ne (ne_of_none g2 nT)]; exact g2, hsz, ?_⟩⟩
      have hTL : T ≠ L := Ne.symm (ne_of_none g2 nT)
      have s3 : Same H3 (upd H3 T (.tup [.int (if p.2.1 < p.1 then p.2.1 else p.1), .int (if p.2.1 > p.1 then p.2.1 else p.1), .int p.2.2])) := same_upd nT
      refine ⟨fun b o z => ?_, ys ++ [.ref T], upd_same, ?_⟩
      · rw [upd_ne (ne_of_none z nL)]
        exact s3 _ _ (g1 b o z)
      · rw [List.take_add_one, hp, List.map_append]
        have bt : But L (upd H3 T (.tup [.int (if p.2.1 < p.1 then p.2.1 else p.1), .int (if p.2.1 > p.1 then p.2.1 else p.1), .int p.2.2])) (upd (upd H3 T (.tup [.int (if p.2.1 < p.1 then p.2.1 else p.1), .int (if p.2.1 > p.1 then p.2.1 else p.1), .int p.2.2])) L (.lst (ys ++ [.ref T]))) := But.upd _ _ _
        refine Trs.append (Trs.but (D := L) (bs := ys) (by rw [upd_ne (Ne.symm hTL)]; exact g2) bt (g3.same s3)) ⟨⟨T, rfl, .inl (.inl (by rw [upd_ne hTL]; exact upd_same))⟩, True.intro⟩
    · rintro H2 ⟨g1, ys0, g2, g3⟩
      rw [hlen, List.take_length] at g3
      have hbd : ∀ p ∈ ps.map norm, TS.Bd 1000000001 [p.1, p.2.1, p.2.2] := fun p hp => by
        obtain ⟨p0, h0, rfl⟩ := List.mem_map.mp hp
        have := norm_ok (hv p0 h0)
        intro m hm
        simp only [List.mem_cons, List.not_mem_nil, or_false] at hm
        rcases hm with rfl | rfl | rfl <;> omega
      refine ⟨L, ys0, rfl, .inl (.inl g2), fun x hx => ?_, fun ys p hperm hord np => ?_⟩
      · obtain ⟨i, hi, rfl⟩ := List.mem_iff_getElem.mp hx
        obtain ⟨p, hp, tr⟩ := g3.get (List.getElem?_eq_getElem hi)
        exact ⟨_, tr.tupI, rfl, hbd p (List.mem_of_getElem? hp)⟩
      obtain ⟨qs, hqp, hTq⟩ := g3.perm hperm
      have hord' := hTq.order (fun p hp => hbd p (hqp.mem_iff.mp hp)) hord
      have hqv : ∀ q ∈ qs, 0 ≤ q.1 ∧ q.1 < q.2.1 ∧ q.2.1 < n ∧ 0 ≤ q.2.2 := fun q hq => by
        obtain ⟨p0, h0, rfl⟩ := List.mem_map.mp (hqp.mem_iff.mp hq)
        have := norm_ok (hv p0 h0)
        omega
      have hD2 : H2 D = some (.lst []) := g1 _ _ upd_same
      have hpD : p ≠ D := Ne.symm (ne_of_none hD2 np)
      have hql : qs.length < 4000 := by rw [hqp.length_eq, List.length_map]; exact h64
      have hyl : ys.length = qs.length := hTq.length
      refine ⟨p, rfl, ⟨ys, .inl (.inl upd_same)⟩, ?_⟩
      refine for_list (K := K) (a := p) (xs := ys) (fun i σ H3 => (∃ v2 v3 v4 v5 v6 v7, σ = [some (.ref a), some (.ref D), v2, v3, v4, v5, v6, v7]) ∧ But D (upd H2 p (.lst ys)) H3 ∧
        ∃ bs acc, H3 D = some (.lst bs.reverse) ∧ bs.length ≤ i ∧ Trs K H3 bs acc ∧ BInv n acc (qs.take i)) ?_ (fun i σ H3 _ h => .inl (.inl (h.2.1 p _ hpD upd_same))) ?_ ?_
      · exact ⟨⟨_, _, _, _, _, _, rfl⟩, But.refl _ _, [], [], by rw [upd_ne (Ne.symm hpD)]; exact hD2, Nat.le_refl _, True.intro, BInv.nil⟩
      · rintro i x σ H3 hx ⟨⟨v2, v3, v4, v5, v6, v7, rfl⟩, bt, bs, acc, k1, k2, k3, k4⟩
        have hDp : (upd H2 p (.lst ys)) D = some (.lst []) := by rw [upd_ne (Ne.symm hpD)]; exact hD2
        obtain ⟨q0, hq0, t, rfl, hSt⟩ := (Trs.but hDp bt (hTq.same (same_upd np))).get hx
        have hil : i < 4000 := by have := (List.getElem?_eq_some_iff.mp hq0).1; omega
        have hmem := List.mem_of_getElem? hq0
        have htk : qs.take (i + 1) = qs.take i ++ [q0] := by rw [List.take_add_one, hq0]; rfl
        have hbe : ∀ d ∈ qs.take i, lt2 d q0 ∨ key d q0 := fun d hd => by
          obtain ⟨j, hj, rfl⟩ := List.mem_iff_getElem.mp hd
          rw [List.length_take] at hj
          have hi' := (List.getElem?_eq_some_iff.mp hq0).1
          have e0 : qs[i] = q0 := (List.getElem?_eq_some_iff.mp hq0).2
          have := List.pairwise_iff_getElem.mp hord' j i (by omega) hi' (by omega)
          rw [List.getElem_take]
          rwa [e0] at this
        -- the turn's end: the new bundle at R
        have fin : ∀ (ah : Int) (bs' : List V) (acc' : List T3) (H4 : Hp) (R : Addr), H4 D = some (.lst bs'.reverse) → bs'.length ≤ i → Trs K H4 bs' acc' → But D H3 H4 → putR acc q0 = (q0.1, q0.2.1, ah + q0.2.2) :: acc' → H4 R = none →
            ∃ l xs y, V.ref D = .ref l ∧ [V.ref R] = [y] ∧ (upd H4 R (.tup [.int q0.1, .int q0.2.1, .int (ah + q0.2.2)])) l = some (.lst xs) ∧ xs.length < sizeLine ∧
              (But D (upd H2 p (.lst ys)) (upd (upd H4 R (.tup [.int q0.1, .int q0.2.1, .int (ah + q0.2.2)])) l (.lst (xs ++ [y]))) ∧
                ∃ bs acc, (upd (upd H4 R (.tup [.int q0.1, .int q0.2.1, .int (ah + q0.2.2)])) l (.lst (xs ++ [y]))) D = some (.lst bs.reverse) ∧ bs.length ≤ i + 1 ∧ Trs K (upd (upd H4 R (.tup [.int q0.1, .int q0.2.1, .int (ah + q0.2.2)])) l (.lst (xs ++ [y]))) bs acc ∧ BInv n acc (qs.take (i + 1))) := by
          intro ah bs' acc' H4 R j1 j2 j3 j4 j5 nR
          have hRD : R ≠ D := Ne.symm (ne_of_none j1 nR)
          have j1' : (upd H4 R (.tup [.int q0.1, .int q0.2.1, .int (ah + q0.2.2)])) D = some (.lst bs'.reverse) := by rw [upd_ne (Ne.symm hRD)]; exact j1
          refine ⟨D, _, _, rfl, rfl, j1', by rw [List.length_reverse, sizeLine_eq]; omega, bt.trans (j4.trans ((But.of (same_upd nR)).trans (But.upd _ _ _))), .ref R :: bs', (q0.1, q0.2.1, ah + q0.2.2) :: acc', by rw [upd_same, List.reverse_cons], by rw [List.length_cons]; omega, ?_, ?_⟩
          · exact ⟨⟨R, rfl, .inl (.inl (by rw [upd_ne hRD]; exact upd_same))⟩, Trs.but j1' (But.upd _ _ _) (j3.same (same_upd nR))⟩
          · rw [htk, ← j5]
            exact k4.put (hqv q0 hmem) hbe
        refine ⟨t, _, rfl, hSt, rfl, _, _, rfl, _, _, rfl, _, _, rfl, rfl, ?_⟩
        cases bs with
        | nil =>
          cases acc with
          | cons _ _ => exact k3.elim
          | nil =>
            have em : TruV K (.ref D) H3 false := .inl ⟨[], .inl (.inl k1), rfl⟩
            refine ⟨.ref D, rfl, false, em, ?_⟩
            refine ⟨.ref D, rfl, false, em, ?_⟩
            refine ⟨.ref D, rfl, .inl ⟨rfl, _, .inl (.inl k1)⟩, _, rfl, _, rfl, _, rfl, _, rfl, 0, q0.2.2, rfl, rfl, (by show 3 ≤ sizeLine; decide), fun R nR => ?_⟩
            obtain ⟨l, xs1, y1, z1, z2, z3, z4, z5⟩ := fin 0 [] [] H3 R k1 (Nat.zero_le _) True.intro (But.refl _ _) (by rw [Int.zero_add]; rfl) nR
            exact ⟨l, xs1, y1, z1, z2, z3, z4, ⟨_, _, _, _, _, _, rfl⟩, z5⟩
        | cons b r =>
          cases acc with
          | nil => exact k3.elim
          | cons c ra =>
            have k1' := k1
            rw [List.reverse_cons] at k1'
            obtain ⟨⟨tb, rfl, hSb⟩, k3r⟩ := k3
            have tr : TruV K (.ref D) H3 true := .inl ⟨_, .inl (.inl k1'), by simp⟩
            refine ⟨.ref D, rfl, true, tr, ?_⟩
            refine ⟨.ref D, rfl, 1, rfl, D, _, -1, _, rfl, rfl, .inl (.inl k1'), atI_last _ _, 2, rfl, tb, _, rfl, hSb, fun z => absurd z.2 (show ¬ (HT.sIx 3 3 (some 2) = 3) by decide), fun _ S nS => ?_⟩
            have s1 : Same H3 (upd H3 S (.tup (cutV [V.int c.1, V.int c.2.1, V.int c.2.2] none (some 2)))) := same_upd nS
            refine ⟨_, rfl, _, rfl, (by show 2 ≤ sizeLine; decide), fun S2 nS2 => ?_⟩
            have s2 : Same (upd H3 S (.tup (cutV [V.int c.1, V.int c.2.1, V.int c.2.2] none (some 2)))) (upd (upd H3 S (.tup (cutV [V.int c.1, V.int c.2.1, V.int c.2.2] none (some 2)))) S2 (.tup [.int q0.1, .int q0.2.1])) := same_upd nS2
            refine ⟨.tuple [.int c.1, .int c.2.1], .tuple [.int q0.1, .int q0.2.1], .tup (.inl (.inl (s2 _ _ upd_same))) (.cons (.int _) (.cons (.int _) .nil)), .tup (.inl (.inl upd_same)) (.cons (.int _) (.cons (.int _) .nil)), rfl, rfl, ?_⟩
            rw [eqv2]
            have s12 := s1.trans s2
            generalize upd (upd H3 S (.tup (cutV [V.int c.1, V.int c.2.1, V.int c.2.2] none (some 2)))) S2 (.tup [.int q0.1, .int q0.2.1]) = H4 at s12 ⊢
            by_cases hk : c.1 = q0.1 ∧ c.2.1 = q0.2.1
            · rw [decide_eq_true hk.1, decide_eq_true hk.2]
              refine ⟨.bl true, rfl, true, rfl, ?_⟩
              have i2 : atI [V.int c.1, V.int c.2.1, V.int c.2.2] 2 = some (.int c.2.2) := atI_nat (xs := [V.int c.1, V.int c.2.1, V.int c.2.2]) (j := 2) rfl
              have k1'' := s12 _ _ k1'
              refine ⟨.ref D, rfl, .inl ⟨rfl, _, .inl (.inl k1'')⟩, D, _, .ref tb, rfl, rfl, k1'', by simp, tb, _, 2, _, rfl, rfl, SqT.but k1'' (hSb.ext s12) (But.upd _ _ _), i2, ?_⟩
              have dl : (r.reverse ++ [V.ref tb]).dropLast = r.reverse := List.dropLast_concat
              rw [dl]
              refine ⟨.ref D, rfl, .inl ⟨rfl, _, .inl (.inl upd_same)⟩, _, rfl, _, rfl, _, rfl, _, rfl, c.2.2, q0.2.2, rfl, rfl, (by show 3 ≤ sizeLine; decide), fun R nR => ?_⟩
              obtain ⟨l, xs1, y1, z1, z2, z3, z4, z5⟩ := fin c.2.2 r ra _ R upd_same (by rw [List.length_cons] at k2; omega) (Trs.but k1'' (But.upd _ _ _) (Trs.same s12 k3r)) ((But.of s12).trans (But.upd _ _ _)) (putR_same hk) nR
              exact ⟨l, xs1, y1, z1, z2, z3, z4, ⟨_, _, _, _, _, _, rfl⟩, z5⟩
            · have e : (decide (c.1 = q0.1) && decide (c.2.1 = q0.2.1)) = false := by simpa using hk
              rw [e]
              refine ⟨.bl false, rfl, false, rfl, ?_⟩
              refine ⟨.ref D, rfl, .inl ⟨rfl, _, .inl (.inl (s12 _ _ k1'))⟩, _, rfl, _, rfl, _, rfl, _, rfl, 0, q0.2.2, rfl, rfl, (by show 3 ≤ sizeLine; decide), fun R nR => ?_⟩
              obtain ⟨l, xs1, y1, z1, z2, z3, z4, z5⟩ := fin 0 (.ref tb :: r) (c :: ra) H4 R (s12 _ _ k1) k2 ⟨⟨tb, rfl, hSb.ext s12⟩, Trs.same s12 k3r⟩ (But.of s12) (by rw [Int.zero_add]; exact putR_new hk) nR
              exact ⟨l, xs1, y1, z1, z2, z3, z4, ⟨_, _, _, _, _, _, rfl⟩, z5⟩
      · rintro σ H3 ⟨⟨v2, v3, v4, v5, v6, v7, rfl⟩, bt, bs, acc, k1, k2, k3, k4⟩
        rw [hyl] at k2
        rw [hyl, List.take_length] at k4
        have e3 : Ext H H3 := fun b o z => bt b o (ne_of_none z nD) (by
          rw [upd_ne (ne_of_none (g1 b o (e1 b o z)) np)]
          exact g1 b o (e1 b o z))
        have hbl : bs.length = acc.length := k3.length
        have tot : ∀ u v, amt qs u v = amt (ps.map norm) u v := fun u v => amt_perm hqp
        refine ⟨_, rfl, D, bs.reverse, acc.reverse, rfl, k1, by rw [List.length_reverse, sizeLine_eq]; omega, k3.reverse, fun r hr => ?_, fun H4 s4 => ?_⟩
        · have hr := List.mem_reverse.mp hr
          have h1 := amt_mem (List.pairwise_reverse.mpr k4.desc) (List.mem_reverse.mpr hr)
          rw [amt_perm (List.reverse_perm acc), k4.am, tot] at h1
          have := ham r.1 r.2.1
          omega
        · have k3' := k3.reverse.same s4
          refine ⟨_, rfl, D, rfl, ⟨_, .inl (.inl (s4 _ _ k1))⟩, fun L2 nL2 => ?_⟩
          have hDL2 : D ≠ L2 := ne_of_none (s4 _ _ k1) nL2
          refine lc_list (K := K) (a := D) (xs := bs.reverse) (fun j H5 => Ext H4 H5 ∧ ∃ zs, H5 L2 = some (.lst zs) ∧ Trs K H5 zs ((acc.reverse.take j).filter fun p => decide (0 < p.2.2)) ∧ zs.length ≤ j) ?_ (fun j H5 _ h => .inl (.inl (h.1 _ _ (s4 _ _ k1)))) ?_ ?_
          · exact ⟨fun b o z => by rw [upd_ne (ne_of_none z nL2)]; exact z, [], upd_same, True.intro, Nat.le_refl _⟩
          · rintro j x H5 hx ⟨m1, zs, m2, m3, m4⟩
            obtain ⟨r, hr, t, rfl, hSt⟩ := (k3'.same m1).get hx
            have hjl : j < 4000 := by
              have := (List.getElem?_eq_some_iff.mp hx).1
              rw [List.length_reverse] at this
              omega
            have i2 : atI [V.int r.1, V.int r.2.1, V.int r.2.2] 2 = some (.int r.2.2) := atI_nat (xs := [V.int r.1, V.int r.2.1, V.int r.2.2]) (j := 2) rfl
            refine ⟨rfl, .ref t, rfl, t, _, 2, _, rfl, rfl, hSt, i2, r.2.2, 0, rfl, rfl, _, rfl, ?_⟩
            have htk : acc.reverse.take (j + 1) = acc.reverse.take j ++ [r] := by rw [List.take_add_one, hr]; rfl
            by_cases hpos : 0 < r.2.2
            · rw [show decide ((0 : Int) < r.2.2) = true from decide_eq_true hpos]
              refine ⟨.ref t, rfl, zs, m2, by rw [sizeLine_eq]; omega, fun b o z => ?_, zs ++ [.ref t], upd_same, ?_, by rw [List.length_append, List.length_singleton]; omega⟩
              · rw [upd_ne (ne_of_none z nL2)]
                exact m1 b o z
              · rw [htk, List.filter_append, List.filter_cons_of_pos (by simpa using hpos)]
                exact Trs.append (Trs.but m2 (But.upd _ _ _) m3) ⟨⟨t, rfl, SqT.but m2 hSt (But.upd _ _ _)⟩, True.intro⟩
            · rw [show decide ((0 : Int) < r.2.2) = false from decide_eq_false hpos]
              refine ⟨m1, zs, m2, ?_, by omega⟩
              rw [htk, List.filter_append, List.filter_cons_of_neg (by simpa using hpos), List.filter_nil, List.append_nil]
              exact m3
          · rintro H5 ⟨m1, zs, m2, m3, m4⟩
            rw [show bs.reverse.length = acc.reverse.length by rw [List.length_reverse, List.length_reverse, hbl], List.take_length] at m3
            refine ⟨L2, zs, rfl, .inl ⟨.inl (.inl m2), fun t nt => ?_⟩⟩
            have e5 : Ext H H5 := Ext.trans e3 (Ext.trans s4 m1)
            refine q _ t zs _ (fun b o z => ?_) (Same.free e5 nt) upd_same (m3.same (same_upd nt)) ⟨k4.done.asc, k4.done.mem, fun u v => ?_⟩ (by rw [List.length_reverse] at m4; omega)
            · rw [upd_ne (ne_of_none (e5 b o z) nt)]
              exact e5 b o z
            · rw [k4.done.am, tot]
end
end T77
/-! The numbers of ties by their pairs, and the degrees. -/
namespace T77
open PySem PySem.Spec PyProof.Rows L2 Wk
abbrev sDegrees : Stmt := top 22
/-- the dict of a list of bundles: each pair in both orders -/
def both : List T3 → List (List Key × V)
  | [] => []
  | p :: r => ([.inl p.1, .inl p.2.1], .int p.2.2) :: ([.inl p.2.1, .inl p.1], .int p.2.2) :: both r
/-- the ties between two places -/
def look : List T3 → Int → Int → Option Int
  | [], _, _ => none
  | p :: r, u, v => if (p.1 = u ∧ p.2.1 = v) ∨ (p.2.1 = u ∧ p.1 = v) then some p.2.2 else look r u v
theorem valV_both : ∀ (T : List T3) (u v : Int), valV (both T) [.inl u, .inl v] = (look T u v).map V.int
  | [], _, _ => rfl
  | p :: r, u, v => by
    have ih := valV_both r u v
    unfold valV at ih ⊢
    unfold both look
    by_cases h1 : p.1 = u ∧ p.2.1 = v
    · rw [if_pos (.inl h1), List.find?_cons_of_pos (by simp [h1.1, h1.2])]
      rfl
    · rw [List.find?_cons_of_neg (by
        simp only [decide_eq_true_eq]
        intro e
        injection e with e1 e2
        injection e2 with e2 _
        exact h1 ⟨by injection e1, by injection e2⟩)]
      by_cases h2 : p.2.1 = u ∧ p.1 = v
      · rw [if_pos (.inr h2), List.find?_cons_of_pos (by simp [h2.1, h2.2])]
        rfl
      · rw [if_neg (fun h => h.elim h1 h2), List.find?_cons_of_neg (by
          simp only [decide_eq_true_eq]
          intro e
          injection e with e1 e2
          injection e2 with e2 _
          exact h2 ⟨by injection e1, by injection e2⟩)]
        exact ih
def deg (T : List T3) (n : Nat) (u : Int) : Int := ((List.range n).map fun (v : Nat) => (look T u (v : Int)).getD 0).sum
def degs (T : List T3) (n : Nat) : List Int := (List.range n).map fun (u : Nat) => deg T n (u : Int)
def spDegrees : Sp := fun vs H Q _ => ∃ (n : Nat) (d : Addr) (T : List T3), vs = [.int (n : Int), .ref d] ∧ n ≤ 60 ∧ H d = some (.dT (both T)) ∧ ∀ H' g, Same H H' → H g = none → H' g = some (.tup ((degs T n).map V.int)) → Q (.ref g) H'
theorem scDe : FnScope ["size", "numbers", "u", "v"] ["size", "numbers"] (defScope sDegrees) := ⟨rfl, rfl, rfl, by decide +kernel, rfl, by decide +kernel, by decide +kernel⟩
theorem sum_look (T : List T3) (n : Nat) (u : Int) : ((List.range n).filterMap fun (v : Nat) => look T u (v : Int)).sum = deg T n u := by
  unfold deg
  induction List.range n with
  | nil => rfl
  | cons v l ih =>
    rw [List.map_cons, List.sum_cons, ← ih]
    cases h : look T u (v : Int) with
    | none => rw [List.filterMap_cons_none (f := fun (v : Nat) => look T u (v : Int)) h]; simp
    | some z => rw [List.filterMap_cons_some (f := fun (v : Nat) => look T u (v : Int)) h, List.sum_cons]; rfl
section
variable {P : Program} {w : World} {K : PySem.W.Frag} {mg : Str → Option Value} {base : Heap}
theorem ok_degrees {f : Addr} {fd : FuncData} {k : Nat} (F : Fun K "_degrees" "_degrees" sDegrees f fd) (mt : mg "tuple" = none) (ms : mg "sum" = none) (mr : mg "range" = none) : FnOk P w K mg base CX0 (k + 1) f fd ["size", "numbers"] spDegrees := by
  refine F.ok scDe (fun vs H Q E h => ?_) (fun cdv A outer s H vs Q E hr h => ?_)
  · obtain ⟨n, d, T, rfl, _⟩ := h
    rfl
  · obtain ⟨n, d, T, rfl, hn, hd, q⟩ := h
    have hu := hu_of hr
    refine ⟨_, pss_one (ps_ret (pe_callTy call_tuple_of (by rfl) mt (by decide +kernel) (pa_cons
      (pe_lc (own := [("u", 2)]) (g := gName 2) (tt := tYes) rfl scDe.nd (pi_range1 (by rfl) mr (pa_cons (pv 0) pa_nil)) (blkOk_by (N := ["size", "numbers", "u", "v"]) (sc := defScope sDegrees) (by decide +kernel))
        (fun _ _ _ _ _ => pg_name (i := 2) scDe.nd rfl (Or.inr rfl)) (fun _ _ _ _ _ => pts_nil)
        (fun _ _ _ _ _ => pe_callB (r := rSum K) (cr_sum rfl) (by rfl) ms (by decide +kernel) (pa_cons
          (pe_lc (own := [("v", 3)]) (g := gName 3) rfl scDe.nd (pi_range1 (by rfl) mr (pa_cons (pv 0) pa_nil)) (blkOk_by (N := ["size", "numbers", "u", "v"]) (show blkC _ (relS _ (defScope sDegrees)) _ _ = true by decide +kernel))
            (fun _ _ _ _ _ => pg_name (i := 3) scDe.nd rfl (Or.inl rfl)) (fun _ _ _ _ _ => pts_one (pt_cmp (pc_din hu (pe_tup (pa_cons (pv 2) (pa_cons (pv 3) pa_nil))) (pv 1))))
            (fun _ _ _ _ _ => pe_dget hu (pv 1) (pe_tup (pa_cons (pv 2) (pa_cons (pv 3) pa_nil))) (fun _ _ => rfl))) pa_nil))) pa_nil))), ?_⟩
    have en : ((n : Int)).toNat = n := Int.toNat_natCast n
    refine ⟨.int n, rfl, (n : Int), rfl, by omega, by omega, ?_⟩
    rw [en]
    intro D nD
    refine lc_it walk_range (fun i H2 => Ext H H2 ∧ H2 D = some (.lst (((degs T n).take i).map V.int))) ⟨fun b o z => by rw [upd_ne (ne_of_none z nD)]; exact z, upd_same⟩ (fun _ _ _ _ => True.intro) ?_ ?_
    · rintro i x H2 H3 hi ⟨g1, g2⟩ ⟨rfl, rfl⟩
      refine ⟨rfl, .int n, rfl, (n : Int), rfl, by omega, by omega, ?_⟩
      rw [en]
      intro D2 nD2
      have hD2 : D ≠ D2 := ne_of_none g2 nD2
      refine lc_it walk_range (fun j H4 => Ext H3 H4 ∧ H4 D2 = some (.lst (((List.range j).filterMap fun (v : Nat) => look T (i : Int) (v : Int)).map V.int))) ⟨fun b o z => by rw [upd_ne (ne_of_none z nD2)]; exact z, upd_same⟩ (fun _ _ _ _ => True.intro) ?_ ?_
      · rintro j x H4 H5 hj ⟨m1, m2⟩ ⟨rfl, rfl⟩
        refine ⟨rfl, _, rfl, _, rfl, (by show 2 ≤ sizeLine; decide), fun R nR => ?_⟩
        have sR : Same H5 (upd H5 R (.tup [.int (0 + (i : Int)), .int (0 + (j : Int))])) := same_upd nR
        have hd5 := sR _ _ (m1 _ _ (g1 _ _ hd))
        have e : valV (both T) [.inl (0 + (i : Int)), .inl (0 + (j : Int))] = (look T (i : Int) (j : Int)).map V.int := by rw [valV_both, Int.zero_add, Int.zero_add]
        refine ⟨.ref d, rfl, d, _, rfl, DGet.t (k := [.inl (0 + (i : Int)), .inl (0 + (j : Int))]) hd5 upd_same, ?_⟩
        have hlen : ∀ (f : Nat → Option Int) (j : Nat), ((List.range j).filterMap f).length ≤ j := fun f j => by
          have := List.length_filterMap_le f (List.range j)
          rwa [List.length_range] at this
        rw [e]
        cases hl : look T (i : Int) (j : Int) with
        | none =>
          refine ⟨_, rfl, fun b o z => by exact sR _ _ (m1 b o z), ?_⟩
          rw [sR _ _ m2, List.range_succ, List.filterMap_append]
          simp [hl]
        | some z0 =>
          refine ⟨_, rfl, .ref d, rfl, _, rfl, _, rfl, (by show 2 ≤ sizeLine; decide), fun R2 nR2 => ?_⟩
          have sR2 : Same (upd H5 R (.tup [.int (0 + (i : Int)), .int (0 + (j : Int))])) (upd (upd H5 R (.tup [.int (0 + (i : Int)), .int (0 + (j : Int))])) R2 (.tup [.int (0 + (i : Int)), .int (0 + (j : Int))])) := same_upd nR2
          have e2 := DGet.t (k := [.inl (0 + (i : Int)), .inl (0 + (j : Int))]) (sR2 _ _ hd5) (upd_same (H := upd H5 R (.tup [.int (0 + (i : Int)), .int (0 + (j : Int))])) (a := R2) (o := .tup [.int (0 + (i : Int)), .int (0 + (j : Int))]))
          rw [e, hl] at e2
          refine ⟨d, _, rfl, e2, _, sR2 _ _ (sR _ _ m2), ?_, fun b o z => ?_, ?_⟩
          · rw [List.length_map, sizeLine_eq]
            have := hlen (fun (v : Nat) => look T (i : Int) (v : Int)) j
            omega
          · rw [upd_ne (ne_of_none z nD2)]
            exact sR2 _ _ (sR _ _ (m1 b o z))
          · rw [upd_same, List.range_succ, List.filterMap_append]
            simp [hl]
      · rintro H4 ⟨m1, m2⟩
        refine ⟨D2, _, rfl, .inl (.inl m2), _, m1 _ _ g2, ?_, ?_, ?_⟩
        · rw [List.length_map, List.length_take, sizeLine_eq]
          omega
        · intro b o z
          rw [upd_ne (ne_of_none z nD)]
          exact m1 _ _ (g1 b o z)
        · have hi' : i < (degs T n).length := by unfold degs; rw [List.length_map, List.length_range]; exact hi
          have ei : (degs T n)[i]? = some (deg T n (i : Int)) := by
            unfold degs
            rw [List.getElem?_map, List.getElem?_range hi]
            rfl
          rw [upd_same, List.take_add_one, ei, List.map_append, sum_look]
          rfl
    · rintro H2 ⟨g1, g2⟩
      refine ⟨D, _, rfl, .inl ⟨.inl (.inl g2), fun g ng => ?_⟩⟩
      rw [List.take_of_length_le (by unfold degs; rw [List.length_map, List.length_range]; exact Nat.le_refl _)]
      exact q _ g (fun b o z => by rw [upd_ne (ne_of_none (g1 b o z) ng)]; exact g1 b o z) (Same.free g1 ng) upd_same
end
end T77
/-! The readings of a dict comprehension with two clauses, both over tuples that stay. -/
namespace Wk
open PySem PySem.Spec PyProof.Rows L2
theorem dc2_tup {K : PySem.W.Frag} {a : Addr} {xs : List V} {g : TG} {wi1 : TI} {g1 : TG} {tk tv : TE} {vs vs1 : List Nat} {σ : L2.St} {H1 : Hp} {D : Addr} {Qd : Hp → Prop} (Pv : Nat → Hp → Prop) (h0 : Pv 0 (upd H1 D (.dT []))) (hl : ∀ i H, i ≤ xs.length → Pv i H → SqT K H a xs)
    (hs : ∀ i x H, xs[i]? = some x → Pv i H → g x (wipe σ vs) H fun σ2 H2 => wipe σ2 vs = wipe σ vs ∧ tDcIn wi1 g1 tk tv vs1 D (Pv (i + 1)) σ2 H2) (hd : ∀ H, Pv xs.length H → Qd H) :
    ∃ W : Nat → Nat → Hp → Prop, (∃ m, W 0 m (upd H1 D (.dT []))) ∧ ∀ i m H, W i m H →
      ((Itt K a).stop i H ∧ Qd H) ∨ ((Itt K a).go i H ∧ ∃ Nx : Hp → Prop, (∀ H', Nx H' → ∃ m', m' < m ∧ W (i + 1) m' H') ∧ ∀ x H', (Itt K a).yld i H x H' → g x (wipe σ vs) H' fun σ2 H2 => wipe σ2 vs = wipe σ vs ∧ tDcIn wi1 g1 tk tv vs1 D Nx σ2 H2) := by
  refine ⟨fun i m H => m = xs.length - i ∧ i ≤ xs.length ∧ Pv i H, ⟨xs.length, by simp, Nat.zero_le _, h0⟩, ?_⟩
  rintro i m H ⟨rfl, hi, p⟩
  have q := hl i H hi p
  by_cases hlt : i < xs.length
  · exact .inr ⟨walk_tup.goes i H hlt q, Pv (i + 1), fun H' p' => ⟨xs.length - (i + 1), by omega, rfl, hlt, p'⟩, fun x H' y => by
      obtain ⟨rfl, hx⟩ := walk_tup.yields i H x H' hlt q y
      exact hs i x _ hx p⟩
  · obtain rfl : i = xs.length := by omega
    exact .inl ⟨walk_tup.stops H q, hd H p⟩
theorem dc2_in {K : PySem.W.Frag} {a : Addr} {xs : List V} {g1 : TG} {tk tv : TE} {vs1 : List Nat} {σ2 : L2.St} {H4 : Hp} {D : Addr} {Nx : Hp → Prop} (Pv : Nat → Hp → Prop) (h0 : Pv 0 H4) (hl : ∀ i H, i ≤ xs.length → Pv i H → SqT K H a xs)
    (hs : ∀ i x H, xs[i]? = some x → Pv i H → g1 x (wipe σ2 vs1) H fun σ3 H5 => wipe σ3 vs1 = wipe σ2 vs1 ∧ tk σ3 H5 fun y H6 => tv σ3 H6 fun z H7 => ∃ (kvs : List (List Key × V)) (q : List Key) (b : Addr), y = .ref b ∧ H7 b = some (.tup (q.map kV)) ∧ H7 D = some (.dT kvs) ∧ kvs.length < sizeLine ∧ Pv (i + 1) (upd H7 D (.dT (putK kvs q z))))
    (hd : ∀ H, Pv xs.length H → Nx H) :
    ∃ W1 : Nat → Nat → Hp → Prop, (∃ m, W1 0 m H4) ∧ ∀ j k H, W1 j k H → ((Itt K a).stop j H ∧ Nx H) ∨ ((Itt K a).go j H ∧ ∃ Nx1 : Hp → Prop, (∀ H', Nx1 H' → ∃ k', k' < k ∧ W1 (j + 1) k' H') ∧ ∀ x H', (Itt K a).yld j H x H' → g1 x (wipe σ2 vs1) H' fun σ3 H5 => wipe σ3 vs1 = wipe σ2 vs1 ∧
      tk σ3 H5 fun y H6 => tv σ3 H6 fun z H7 => ∃ (kvs : List (List Key × V)) (q : List Key) (b : Addr), y = .ref b ∧ H7 b = some (.tup (q.map kV)) ∧ H7 D = some (.dT kvs) ∧ kvs.length < sizeLine ∧ Nx1 (upd H7 D (.dT (putK kvs q z)))) := by
  refine ⟨fun i m H => m = xs.length - i ∧ i ≤ xs.length ∧ Pv i H, ⟨xs.length, by simp, Nat.zero_le _, h0⟩, ?_⟩
  rintro i m H ⟨rfl, hi, p⟩
  have q := hl i H hi p
  by_cases hlt : i < xs.length
  · exact .inr ⟨walk_tup.goes i H hlt q, Pv (i + 1), fun H' p' => ⟨xs.length - (i + 1), by omega, rfl, hlt, p'⟩, fun x H' y => by
      obtain ⟨rfl, hx⟩ := walk_tup.yields i H x H' hlt q y
      exact hs i x _ hx p⟩
  · obtain rfl : i = xs.length := by omega
    exact .inl ⟨walk_tup.stops H q, hd H p⟩
end Wk
/-! The constructor of a web. -/
namespace T77
open PySem PySem.Spec PyProof.Rows L2 Wk
abbrev sInit : Stmt := inClass (top 15) 0
/-- what the text says of the class -/
structure TxtW (K : PySem.W.Frag) (mg : Str → Option Value) (C : Addr) : Prop where
  cl : Cls K C
  n1 : NoAttr K C "size"
  n2 : NoAttr K C "ties"
  n3 : NoAttr K C "total"
  n4 : NoAttr K C "_numbers"
  n5 : NoAttr K C "degrees"
  msum : mg "sum" = none
def total (T : List T3) : Int := (T.map fun p => p.2.2).sum
/-- a web stands at w -/
structure WebAt (K : PySem.W.Frag) (C : Addr) (H : Hp) (w : Addr) (n : Nat) (T : List T3) : Prop where
  ex : ∃ dx t ys d g, H w = some (.ins C dx [("size", .int (n : Int)), ("ties", .ref t), ("total", .int (total T)), ("_numbers", .ref d), ("degrees", .ref g)]) ∧ H t = some (.tup ys) ∧ Trs K H ys T ∧ H d = some (.dT (both T)) ∧ H g = some (.tup ((degs T n).map V.int))
theorem WebAt.same {K : PySem.W.Frag} {C : Addr} {H H' : Hp} {w : Addr} {n : Nat} {T : List T3} (h : WebAt K C H w n T) (s : Same H H') : WebAt K C H' w n T := by
  obtain ⟨dx, t, ys, d, g, h1, h2, h3, h4, h5⟩ := h.ex
  exact ⟨dx, t, ys, d, g, s _ _ h1, s _ _ h2, h3.same s, s _ _ h4, s _ _ h5⟩
def spInit (K : PySem.W.Frag) (C : Addr) : Sp := fun vs H Q _ => ∃ (w : Addr) (n : Nat) (a dx : Addr) (xs : List V) (ps : List T3), vs = [.ref w, .int (n : Int), .ref a] ∧ H w = some (.ins C dx []) ∧ n ≤ 60 ∧ SqS K H a xs ∧ Trs K H xs ps ∧ ps.length < 4000 ∧
  (∀ p ∈ ps, tieB p.1 p.2.1 p.2.2 (n : Int) = true) ∧ (∀ u v, amt (ps.map norm) u v ≤ 1000000000) ∧
  ∀ H' T, But w H H' → TiesOf (n : Int) (amt (ps.map norm)) T → WebAt K C H' w n T → Q .non H'
theorem scIn : FnScope ["self", "size", "ties", "tie", "u", "v", "number", "pair"] ["self", "size", "ties"] (defScope sInit) := ⟨rfl, rfl, rfl, by decide +kernel, rfl, by decide +kernel, by decide +kernel⟩
theorem SqT.butW {K : PySem.W.Frag} {H H' : Hp} {D t C dx : Addr} {fs : List (Str × V)} {xs : List V} (hD : H D = some (.ins C dx fs)) (h : SqT K H t xs) (b : But D H H') : SqT K H' t xs := by
  rcases h with (h | ⟨o, h⟩) | h
  · exact .inl (.inl (b t _ (fun e => by rw [e, hD] at h; cases h) h))
  · exact .inl (.inr ⟨o, b t _ (fun e => by rw [e, hD] at h; cases h) h⟩)
  · exact .inr h
theorem SqL.butW {K : PySem.W.Frag} {H H' : Hp} {D t C dx : Addr} {fs : List (Str × V)} {xs : List V} (hD : H D = some (.ins C dx fs)) (h : SqL K H t xs) (b : But D H H') : SqL K H' t xs := by
  rcases h with (h | ⟨o, h⟩) | h
  · exact .inl (.inl (b t _ (fun e => by rw [e, hD] at h; cases h) h))
  · exact .inl (.inr ⟨o, b t _ (fun e => by rw [e, hD] at h; cases h) h⟩)
  · exact .inr h
theorem Trs.butW {K : PySem.W.Frag} {H H' : Hp} {D C dx : Addr} {fs : List (Str × V)} (hD : H D = some (.ins C dx fs)) (b : But D H H') : ∀ {xs : List V} {ps : List T3}, Trs K H xs ps → Trs K H' xs ps
  | [], [], _ => True.intro
  | _ :: _, _ :: _, h => ⟨let ⟨t, e, q⟩ := h.1; ⟨t, e, SqT.butW hD q b⟩, Trs.butW hD b h.2⟩
  | [], _ :: _, h => h.elim
  | _ :: _, [], h => h.elim
abbrev F1 (x : V) : List (Str × V) := [(("size" : Str), x)]
abbrev F2 (x y : V) : List (Str × V) := [(("size" : Str), x), (("ties" : Str), y)]
abbrev F3 (x y z : V) : List (Str × V) := [(("size" : Str), x), (("ties" : Str), y), (("total" : Str), z)]
abbrev F4 (x y z u : V) : List (Str × V) := [(("size" : Str), x), (("ties" : Str), y), (("total" : Str), z), (("_numbers" : Str), u)]
abbrev F5 (x y z u v : V) : List (Str × V) := [(("size" : Str), x), (("ties" : Str), y), (("total" : Str), z), (("_numbers" : Str), u), (("degrees" : Str), v)]
theorem pf1 (x : V) : putF "size" x [] = F1 x := rfl
theorem pf2 (x y : V) : putF "ties" y (F1 x) = F2 x y := by kernel_rfl
theorem pf3 (x y z : V) : putF "total" z (F2 x y) = F3 x y z := by kernel_rfl
theorem pf4 (x y z u : V) : putF "_numbers" u (F3 x y z) = F4 x y z u := by kernel_rfl
theorem pf5 (x y z u v : V) : putF "degrees" v (F4 x y z u) = F5 x y z u v := by kernel_rfl
theorem lk2 (x y : V) : (F2 x y).lookup ("ties" : Str) = some y := by kernel_rfl
theorem lk3 (x y z : V) : (F3 x y z).lookup ("ties" : Str) = some y := by kernel_rfl
theorem lk4 (x y z u : V) : (F4 x y z u).lookup ("_numbers" : Str) = some u := by kernel_rfl
theorem both_append : ∀ (l m : List T3), both (l ++ m) = both l ++ both m
  | [], _ => rfl
  | p :: r, m => by
    show _ :: _ :: both (r ++ m) = _
    rw [both_append r m]
    rfl
theorem both_length : ∀ l : List T3, (both l).length = 2 * l.length
  | [] => rfl
  | p :: r => by
    show (both r).length + 1 + 1 = 2 * (r.length + 1)
    rw [both_length r]
    omega
theorem both_any : ∀ {l : List T3} {u v : Int}, (∀ p ∈ l, ¬ (p.1 = u ∧ p.2.1 = v) ∧ ¬ (p.2.1 = u ∧ p.1 = v)) → ((both l).any fun kv => decide (kv.1 = ([.inl u, .inl v] : List Key))) = false
  | [], _, _, _ => rfl
  | p :: r, u, v, h => by
    obtain ⟨h1, h2⟩ := h p List.mem_cons_self
    have ih := both_any (l := r) (u := u) (v := v) fun q hq => h q (List.mem_cons_of_mem _ hq)
    have e1 : ¬ (([.inl p.1, .inl p.2.1] : List Key) = [.inl u, .inl v]) := fun e => by
      injection e with e1 e2
      injection e2 with e2 _
      exact h1 ⟨by injection e1, by injection e2⟩
    have e2 : ¬ (([.inl p.2.1, .inl p.1] : List Key) = [.inl u, .inl v]) := fun e => by
      injection e with e1 e2
      injection e2 with e2 _
      exact h2 ⟨by injection e1, by injection e2⟩
    unfold both
    rw [List.any_cons, List.any_cons, ih, decide_eq_false e1, decide_eq_false e2]
    rfl
theorem putK_new {kvs : List (List Key × V)} {k : List Key} {v : V} (h : (kvs.any fun kv => decide (kv.1 = k)) = false) : putK kvs k v = kvs ++ [(k, v)] := by
  unfold putK
  rw [h]
  rfl
section
variable {P : Program} {w : World} {K : PySem.W.Frag} {mg : Str → Option Value} {base : Heap}
/-- a def with defaults, by its body -/
theorem okD {x qual : Str} {params : Arguments} {body : List Stmt} {scope : Scope} {dvs : List V} {kws : List (Str × V)} {f : Addr} {fd : FuncData} {N ps : List Str} {k : Nat} {sp : Sp} (F : FunD K x qual params body scope dvs kws f fd) (S : FnScope N ps scope)
    (len : ∀ vs H Q E, sp vs H Q E → vs.length = ps.length) (hb : ∀ (cdv : Value) (A : Around) (outer : List Env) (s : Shared) (H : Hp) (vs : List V) (Q : VK) (E : XK), Room k (A.deeper (envOfC qual scope s.heap.objs.size f cdv)) → sp vs H Q E →
      ∃ t, PSs (cxOf CX0 P w K mg base N qual scope f cdv A outer s H E).nox body t ∧ t { nx := fun _ H' => Q .non H', rt := Q } (start N vs) H) : FnOk P w K mg base CX0 (k + 1) f fd ps sp :=
  FunD.ok F S len fun cdv A outer s H vs Q E hr h => let ⟨t, h, q⟩ := hb cdv A outer s H vs Q E hr h; ⟨t, h.nox, q⟩
theorem ok_init {C f fn fb fg aE : Addr} {fd fdn fdb fdg : FuncData} {k : Nat} (F : FunD K "__init__" "Web.__init__" (defArgs sInit) (defBody sInit) (defScope sInit) [.ref aE] [] f fd) (T : TxtW K mg C) (GN : FnOk P w K mg base CX0 k fn fdn ["size", "ties"] (spNeed K)) (gN : mg "_need_arguments" = some (.ref fn)) (kN : PySem.W.keepIn K (.ref fn) = true) (bN : Binds K fdn ["size", "ties"] [])
    (GB : FnOk P w K mg base CX0 k fb fdb ["ties"] (spBundles K)) (gB : mg "_bundles" = some (.ref fb)) (kB : PySem.W.keepIn K (.ref fb) = true) (bB : Binds K fdb ["ties"] [])
    (GD : FnOk P w K mg base CX0 k fg fdg ["size", "numbers"] spDegrees) (gD : mg "_degrees" = some (.ref fg)) (kD : PySem.W.keepIn K (.ref fg) = true) (bD : Binds K fdg ["size", "numbers"] []) :
    FnOk P w K mg base CX0 (k + 1) f fd ["self", "size", "ties"] (spInit K C) := by
  refine okD F scIn (fun vs H Q E h => ?_) (fun cdv A outer s H vs Q E hr h => ?_)
  · obtain ⟨w, n, a, dx, xs, ps, rfl, _⟩ := h
    rfl
  · obtain ⟨w, n, a, dx, xs, ps, rfl, hw, hn, hS, hT, h64, hv, ham, q⟩ := h
    have hu := hu_of hr
    refine ⟨_, pss_cons (ps_expr (pe_call GN hr rfl gN kN bN .nil pass0 (pa_cons (pv 1) (pa_cons (pv 2) pa_nil))))
      (pss_cons (ps_fld (pv 0) (pv 1) rfl)
      (pss_cons (ps_fld (pv 0) (pe_call GB hr rfl gB kB bB .nil pass0 (pa_cons (pv 2) pa_nil)) rfl)
      (pss_cons (ps_fld (pv 0) (pe_callB (r := rSum K) (cr_sum rfl) (by rfl) T.msum (by decide +kernel) (pa_cons
        (pe_lc (own := [("tie", 3)]) (g := gName 3) (tt := tYes) rfl scIn.nd (pi_tup (pe_fld (pv 0) rfl)) (blkOk_by (N := ["self", "size", "ties", "tie", "u", "v", "number", "pair"]) (sc := defScope sInit) (by decide +kernel))
          (fun _ _ _ _ _ => pg_name (i := 3) scIn.nd rfl (Or.inl rfl)) (fun _ _ _ _ _ => pts_nil) (fun _ _ _ _ _ => pe_ix (r := rIxT K) ix_tup (pv 3) pe_int (fun _ _ => rfl))) pa_nil)) rfl)
      (pss_cons (ps_fld (pv 0) (pe_dc2 (own := [("u", 4), ("v", 5), ("number", 6), ("pair", 7)]) (vs1 := [7]) (g := gTup K 3 (gCons (gName 4) (gCons (gName 5) (gCons (gName 6) gNil)))) (g1 := gName 7) (wi1 := iTup K (tTup (tCons (tTup (tCons (tVar 4) (tCons (tVar 5) tNil))) (tCons (tTup (tCons (tVar 5) (tCons (tVar 4) tNil))) tNil))))
          rfl (Nat.lt_of_succ_lt hu) scIn.nd (pi_tup (pe_fld (pv 0) rfl)) (blkOk_by (N := ["self", "size", "ties", "tie", "u", "v", "number", "pair"]) (sc := defScope sInit) (by decide +kernel)) (by decide)
          (fun _ _ _ _ _ => pg_tup rfl (pgs_cons (pg_name (i := 4) scIn.nd rfl (Or.inl rfl)) (pgs_cons (pg_name (i := 5) scIn.nd rfl (Or.inl rfl)) (pgs_cons (pg_name (i := 6) scIn.nd rfl (Or.inl rfl)) pgs_nil))))
          (fun _ _ _ _ _ => pi_tup (pe_tup (pa_cons (pe_tup (pa_cons (pv 4) (pa_cons (pv 5) pa_nil))) (pa_cons (pe_tup (pa_cons (pv 5) (pa_cons (pv 4) pa_nil))) pa_nil))))
          (fun _ _ _ _ _ => pg_name (i := 7) scIn.nd rfl (Or.inl rfl)) (fun _ _ _ _ _ => pv 7) (fun _ _ _ _ _ => pv 6)) rfl)
      (pss_one (ps_fld (pv 0) (pe_call GD hr rfl gD kD bD .nil pass0 (pa_cons (pv 1) (pa_cons (pe_fld (pv 0) rfl) pa_nil))) rfl)))))), ?_⟩
    refine ⟨_, rfl, _, rfl, (n : Int), a, xs, ps, rfl, by omega, by omega, hS, hT, hv, fun H1 s1 => ?_⟩
    have hw1 := s1 _ _ hw
    refine ⟨_, rfl, .ref w, rfl, w, C, dx, [], rfl, hw1, T.cl, T.n1, (by show 0 < 1000; decide), ?_⟩
    rw [pf1]
    have b2 : But w H1 (upd H1 w (.ins C dx (F1 (.int (n : Int))))) := But.upd _ _ _
    have hS2 : SqS K (upd H1 w (.ins C dx (F1 (.int (n : Int))))) a xs := (hS.ext s1).elim (fun h => .inl (SqL.butW hw1 h b2)) fun h => .inr (SqT.butW hw1 h b2)
    refine ⟨_, rfl, (n : Int), a, xs, ps, rfl, by omega, hS2, Trs.butW hw1 b2 (hT.same s1), h64, hv, ham, fun H3 t ys TT s3 nt ht hTr hTi hy64 => ?_⟩
    have hw3 := s3 _ _ upd_same
    have hwt : w ≠ t := ne_of_none upd_same nt
    refine ⟨.ref w, rfl, w, C, dx, _, rfl, hw3, T.cl, T.n2, (by show 1 < 1000; decide), ?_⟩
    rw [pf2]
    have b4 : But w H3 (upd H3 w (.ins C dx (F2 (.int (n : Int)) (.ref t)))) := But.upd _ _ _
    have hTr4 := Trs.butW hw3 b4 hTr
    have ht4 : (upd H3 w (.ins C dx (F2 (.int (n : Int)) (.ref t)))) t = some (.tup ys) := b4 _ _ (Ne.symm hwt) ht
    have b04 : But w H (upd H3 w (.ins C dx (F2 (.int (n : Int)) (.ref t)))) := (But.of s1).trans (b2.trans ((But.of s3).trans b4))
    have hw4 : (upd H3 w (.ins C dx (F2 (.int (n : Int)) (.ref t)))) w = some (.ins C dx (F2 (.int (n : Int)) (.ref t))) := upd_same
    generalize upd H3 w (.ins C dx (F2 (.int (n : Int)) (.ref t))) = H4 at hTr4 ht4 b04 hw4 ⊢
    -- the total
    have hyl : ys.length = TT.length := hTr4.length
    have hTl : ys.length < sizeLine := by rw [sizeLine_eq]; omega
    refine ⟨.ref w, rfl, w, C, dx, _, _, rfl, hw4, T.cl, T.n2, lk2 _ _, t, rfl, ⟨ys, .inl (.inl ht4)⟩, fun D nD => ?_⟩
    have hDt : t ≠ D := ne_of_none ht4 nD
    refine lc_tup (K := K) (a := t) (xs := ys) (fun i H5 => Ext H4 H5 ∧ H5 D = some (.lst (((TT.take i).map fun p => p.2.2).map V.int))) ⟨fun b o z => by rw [upd_ne (ne_of_none z nD)]; exact z, upd_same⟩ (fun i H5 _ h => .inl (.inl (h.1 _ _ ht4))) ?_ ?_
    · rintro i x H5 hx ⟨m1, m2⟩
      obtain ⟨p, hp, t', rfl, hSt⟩ := (hTr4.same m1).get hx
      have hi := (List.getElem?_eq_some_iff.mp hx).1
      have i2 : atI [V.int p.1, V.int p.2.1, V.int p.2.2] 2 = some (.int p.2.2) := atI_nat (xs := [V.int p.1, V.int p.2.1, V.int p.2.2]) (j := 2) rfl
      refine ⟨rfl, _, rfl, t', _, 2, _, rfl, rfl, hSt, i2, _, m2, ?_, fun b o z => ?_, ?_⟩
      · rw [List.length_map, List.length_map, List.length_take]
        omega
      · rw [upd_ne (ne_of_none z nD)]
        exact m1 b o z
      · rw [upd_same, List.take_add_one, hp, List.map_append, List.map_append]
        rfl
    rintro H5 ⟨m1, m2⟩
    rw [hyl, List.take_length] at m2
    refine ⟨D, _, rfl, .inl (.inl m2), .ref w, rfl, w, C, dx, _, rfl, m1 _ _ hw4, T.cl, T.n3, (by show 2 < 1000; decide), ?_⟩
    rw [pf3]
    have b6 : But w H5 (upd H5 w (.ins C dx (F3 (.int (n : Int)) (.ref t) (.int (TT.map fun p => p.2.2).sum)))) := But.upd _ _ _
    have hw5 := m1 _ _ hw4
    have hTr6 := Trs.butW hw5 b6 (hTr4.same m1)
    have hwt' : t ≠ w := Ne.symm hwt
    have ht6 := b6 _ _ hwt' (m1 _ _ ht4)
    have b06 := b04.trans ((But.of m1).trans b6)
    have hw6 : (upd H5 w (.ins C dx (F3 (.int (n : Int)) (.ref t) (.int (TT.map fun p => p.2.2).sum)))) w = some (.ins C dx (F3 (.int (n : Int)) (.ref t) (.int (TT.map fun p => p.2.2).sum))) := upd_same
    generalize upd H5 w (.ins C dx (F3 (.int (n : Int)) (.ref t) (.int (TT.map fun p => p.2.2).sum))) = H6 at hTr6 ht6 b06 hw6 ⊢
    -- the numbers by their pairs
    refine ⟨.ref w, rfl, w, C, dx, _, _, rfl, hw6, T.cl, T.n2, lk3 _ _ _, t, rfl, ⟨ys, .inl (.inl ht6)⟩, fun D2 nD2 => ?_⟩
    refine dc2_tup (K := K) (a := t) (xs := ys) (fun i H => Ext H6 H ∧ H D2 = some (.dT (both (TT.take i)))) ⟨fun b o z => by rw [upd_ne (ne_of_none z nD2)]; exact z, upd_same⟩ (fun i H _ h => .inl (.inl (h.1 _ _ ht6))) ?_ ?_
    · rintro i x H7 hx ⟨r1, r2⟩
      obtain ⟨p, hp, t', rfl, hSt⟩ := (hTr6.same r1).get hx
      have hi : i < TT.length := (List.getElem?_eq_some_iff.mp hp).1
      have hpe : TT[i] = p := (List.getElem?_eq_some_iff.mp hp).2
      have hpm := hTi.mem p (List.mem_of_getElem? hp)
      have hlt : ∀ q ∈ TT.take i, lt2 q p := fun q hq => by
        obtain ⟨j, hj, rfl⟩ := List.mem_iff_getElem.mp hq
        rw [List.length_take] at hj
        have := List.pairwise_iff_getElem.mp hTi.asc j i (by omega) hi (by omega)
        rw [List.getElem_take]
        rwa [hpe] at this
      have hq : ∀ q ∈ TT.take i, q.1 < q.2.1 := fun q hq => (hTi.mem q (List.mem_of_mem_take hq)).2.1
      have htk : TT.take (i + 1) = TT.take i ++ [p] := by rw [List.take_add_one, hp]; rfl
      have hbl : (both (TT.take i)).length < 8200 := by rw [both_length, List.length_take]; omega
      have hbig : 100000 < sizeLine := by rw [sizeLine_eq]; decide
      refine ⟨t', _, rfl, hSt, rfl, _, _, rfl, _, _, rfl, _, _, rfl, rfl, rfl, ?_⟩
      refine ⟨_, rfl, _, rfl, (by show 2 ≤ sizeLine; decide), fun A1 n1 => ?_⟩
      refine ⟨_, rfl, _, rfl, (by show 2 ≤ sizeLine; decide), fun A2 n2 => ⟨(by show 2 ≤ sizeLine; decide), fun A3 n3 => ?_⟩⟩
      have q1 := same_upd (o := .tup [.int p.1, .int p.2.1]) n1
      have q2 := same_upd (o := .tup [.int p.2.1, .int p.1]) n2
      have q3 := same_upd (o := .tup [.ref A1, .ref A2]) n3
      have a1 := q3 _ _ (q2 _ _ (upd_same (H := H7) (a := A1) (o := .tup [.int p.1, .int p.2.1])))
      have a2 := q3 _ _ (upd_same (H := upd H7 A1 (.tup [.int p.1, .int p.2.1])) (a := A2) (o := .tup [.int p.2.1, .int p.1]))
      have d3 := q3 _ _ (q2 _ _ (q1 _ _ r2))
      have e13 : Ext H7 (upd (upd (upd H7 A1 (.tup [.int p.1, .int p.2.1])) A2 (.tup [.int p.2.1, .int p.1])) A3 (.tup [.ref A1, .ref A2])) := Ext.trans q1 (Ext.trans q2 q3)
      have a3 : (upd (upd (upd H7 A1 (.tup [.int p.1, .int p.2.1])) A2 (.tup [.int p.2.1, .int p.1])) A3 (.tup [.ref A1, .ref A2])) A3 = some (.tup [.ref A1, .ref A2]) := upd_same
      generalize upd (upd (upd H7 A1 (.tup [.int p.1, .int p.2.1])) A2 (.tup [.int p.2.1, .int p.1])) A3 (.tup [.ref A1, .ref A2]) = H8 at a1 a2 a3 d3 e13 ⊢
      have hA1 : A1 ≠ D2 := fun e => by rw [e, d3] at a1; cases a1
      have hA2 : A2 ≠ D2 := fun e => by rw [e, d3] at a2; cases a2
      have hA3 : A3 ≠ D2 := fun e => by rw [e, d3] at a3; cases a3
      refine ⟨A3, rfl, ⟨_, .inl (.inl a3)⟩, ?_⟩
      refine dc2_in (K := K) (a := A3) (xs := [.ref A1, .ref A2]) (fun j H => But D2 H8 H ∧ H D2 = some (.dT (both (TT.take i) ++ (both [p]).take j))) ⟨But.refl _ _, by rw [List.take_zero, List.append_nil]; exact d3⟩ (fun j H _ h => .inl (.inl (h.1 _ _ hA3 a3))) ?_ ?_
      · rintro j x H9 hx ⟨u1, u2⟩
        match j, hx, u2 with
        | 0, hx, u2 =>
          cases hx
          rw [List.take_zero, List.append_nil] at u2
          refine ⟨rfl, _, rfl, _, rfl, _, [.inl p.1, .inl p.2.1], A1, rfl, u1 _ _ hA1 a1, u2, by omega, u1.trans (But.upd _ _ _), ?_⟩
          rw [upd_same, putK_new (both_any fun q hm => by have := hlt q hm; have := hq q hm; unfold lt2 at *; omega)]
          rfl
        | 1, hx, u2 =>
          cases hx
          refine ⟨rfl, _, rfl, _, rfl, _, [.inl p.2.1, .inl p.1], A2, rfl, u1 _ _ hA2 a2, u2, ?_, u1.trans (But.upd _ _ _), ?_⟩
          · rw [List.length_append]
            have : ((both [p]).take 1).length ≤ 1 := List.length_take_le _ _
            omega
          · have e1 : ¬ (([.inl p.1, .inl p.2.1] : List Key) = [.inl p.2.1, .inl p.1]) := fun e => by
              injection e with e1 _
              injection e1 with e1
              omega
            rw [upd_same, putK_new (by
              rw [List.any_append, both_any fun q hm => by have := hlt q hm; have := hq q hm; unfold lt2 at *; omega]
              show (false || (decide (([.inl p.1, .inl p.2.1] : List Key) = [.inl p.2.1, .inl p.1]) || false)) = false
              rw [decide_eq_false e1]
              rfl), List.append_assoc]
            rfl
        | j + 2, hx, _ => cases hx
      · rintro H9 ⟨u1, u2⟩
        refine ⟨fun b o z => u1 b o (fun e => by rw [e, nD2] at z; cases z) (e13 _ _ (r1 b o z)), ?_⟩
        rw [htk, both_append]
        exact u2
    rintro H7 ⟨r1, r2⟩
    rw [hyl, List.take_length] at r2
    refine ⟨.ref w, rfl, w, C, dx, _, rfl, r1 _ _ hw6, T.cl, T.n4, (by show 3 < 1000; decide), ?_⟩
    rw [pf4]
    have b8 : But w H7 (upd H7 w (.ins C dx (F4 (.int (n : Int)) (.ref t) (.int (TT.map fun p => p.2.2).sum) (.ref D2)))) := But.upd _ _ _
    have hw7 := r1 _ _ hw6
    have hwD2 : D2 ≠ w := fun e => by rw [e, hw7] at r2; cases r2
    have hTr8 := Trs.butW hw7 b8 (hTr6.same r1)
    have ht8 := b8 _ _ hwt' (r1 _ _ ht6)
    have hd8 := b8 _ _ hwD2 r2
    have b08 := b06.trans ((But.of r1).trans b8)
    have hw8 : (upd H7 w (.ins C dx (F4 (.int (n : Int)) (.ref t) (.int (TT.map fun p => p.2.2).sum) (.ref D2)))) w = some (.ins C dx (F4 (.int (n : Int)) (.ref t) (.int (TT.map fun p => p.2.2).sum) (.ref D2))) := upd_same
    generalize upd H7 w (.ins C dx (F4 (.int (n : Int)) (.ref t) (.int (TT.map fun p => p.2.2).sum) (.ref D2))) = H8 at hTr8 ht8 hd8 b08 hw8 ⊢
    -- the degrees
    refine ⟨_, rfl, .ref w, rfl, w, C, dx, _, _, rfl, hw8, T.cl, T.n4, lk4 _ _ _ _, n, D2, TT, rfl, hn, hd8, fun H9 g s9 ng hg => ?_⟩
    have hw9 := s9 _ _ hw8
    have hwg : g ≠ w := fun e => by rw [e, hw9] at hg; cases hg
    refine ⟨.ref w, rfl, w, C, dx, _, rfl, hw9, T.cl, T.n5, (by show 4 < 1000; decide), ?_⟩
    rw [pf5]
    have b10 : But w H9 (upd H9 w (.ins C dx (F5 (.int (n : Int)) (.ref t) (.int (TT.map fun p => p.2.2).sum) (.ref D2) (.ref g)))) := But.upd _ _ _
    exact q _ TT (b08.trans ((But.of s9).trans b10)) hTi ⟨dx, t, ys, D2, g, upd_same, b10 _ _ hwt' (s9 _ _ ht8), Trs.butW hw9 b10 (hTr8.same s9), b10 _ _ hwD2 (s9 _ _ hd8), b10 _ _ hwg hg⟩
end
end T77
/-! web[u, v], x in web. -/
namespace T77
open PySem PySem.Spec PyProof.Rows L2 Wk
abbrev sGet : Stmt := inClass (top 15) 1
abbrev sCont : Stmt := inClass (top 15) 3
theorem lk5s (x y z u v : V) : (F5 x y z u v).lookup ("size" : Str) = some x := by kernel_rfl
theorem lk5t (x y z u v : V) : (F5 x y z u v).lookup ("ties" : Str) = some y := by kernel_rfl
theorem lk5o (x y z u v : V) : (F5 x y z u v).lookup ("total" : Str) = some z := by kernel_rfl
theorem lk5n (x y z u v : V) : (F5 x y z u v).lookup ("_numbers" : Str) = some u := by kernel_rfl
theorem lk5d (x y z u v : V) : (F5 x y z u v).lookup ("degrees" : Str) = some v := by kernel_rfl
def spGet (K : PySem.W.Frag) (C : Addr) : Sp := fun vs H Q _ => ∃ w p n T u v, vs = [.ref w, .ref p] ∧ WebAt K C H w n T ∧ SqT K H p [.int u, .int v] ∧ ∀ H', Same H H' → Q (.int ((look T u v).getD 0)) H'
/-- what x in web is worth -/
def PairIs (K : PySem.W.Frag) (H : Hp) (x : V) (n : Int) (T : List T3) (r : Bool) : Prop := ∃ t b, TyX K H x t ∧ ((PySem.W.kitOne K t (.type "tuple") = some false ∧ b = false) ∨ (PySem.W.kitOne K t (.type "tuple") = some true ∧ ∃ a xs, x = .ref a ∧ SqT K H a xs ∧
  ((xs.length ≠ 2 ∧ b = false) ∨ ∃ y z ty tz, xs = [y, z] ∧ AnyV K H y ty ∧ AnyV K H z tz ∧ b = pairB y z n))) ∧ (b = false → r = false) ∧ (b = true → ∃ a u v, x = .ref a ∧ SqT K H a [.int u, .int v] ∧ r = (look T u v).isSome)
def spCont (K : PySem.W.Frag) (C : Addr) : Sp := fun vs H Q _ => ∃ w x n T r, vs = [.ref w, x] ∧ WebAt K C H w n T ∧ PairIs K H x (n : Int) T r ∧ ∀ H', Same H H' → Q (.bl r) H'
theorem scGe : FnScope ["self", "at", "u", "v"] ["self", "at"] (defScope sGet) := ⟨rfl, rfl, rfl, by decide +kernel, rfl, by decide +kernel, by decide +kernel⟩
theorem scCo : FnScope ["self", "x"] ["self", "x"] (defScope sCont) := ⟨rfl, rfl, rfl, by decide +kernel, rfl, by decide +kernel, by decide +kernel⟩
section
variable {P : Program} {w : World} {K : PySem.W.Frag} {mg : Str → Option Value} {base : Heap}
theorem ok_get {C f : Addr} {fd : FuncData} {k : Nat} (F : Fun K "__getitem__" "Web.__getitem__" sGet f fd) (T : TxtW K mg C) : FnOk P w K mg base CX0 (k + 1) f fd ["self", "at"] (spGet K C) := by
  refine F.ok scGe (fun vs H Q E h => ?_) (fun cdv A outer s H vs Q E hr h => ?_)
  · obtain ⟨w, p, n, T, u, v, rfl, _⟩ := h
    rfl
  · obtain ⟨w, p, n, TT, u, v, rfl, hW, hp, q⟩ := h
    have hu := hu_of hr
    obtain ⟨dx, t, ys, d, g, h1, h2, h3, h4, h5⟩ := hW.ex
    refine ⟨_, pss_cons (ps_asg (pv 1) (pg_tup rfl (pgs_cons (pg_name (i := 2) scGe.nd rfl (Or.inl rfl)) (pgs_cons (pg_name (i := 3) scGe.nd rfl (Or.inl rfl)) pgs_nil))))
      (pss_cons (ps_if (pt_cmp (pc_din hu (pe_tup (pa_cons (pv 2) (pa_cons (pv 3) pa_nil))) (pe_fld (pv 0) rfl))) (pss_one (ps_ret (pe_dget hu (pe_fld (pv 0) rfl) (pe_tup (pa_cons (pv 2) (pa_cons (pv 3) pa_nil))) (fun _ _ => rfl)))) pss_nil)
      (pss_one (ps_ret pe_int))), ?_⟩
    refine ⟨.ref p, rfl, p, _, rfl, hp, rfl, _, _, rfl, _, _, rfl, rfl, ?_⟩
    refine ⟨_, rfl, _, rfl, (by show 2 ≤ sizeLine; decide), fun R nR => ?_⟩
    have s1 : Same H (upd H R (.tup [.int u, .int v])) := same_upd nR
    refine ⟨.ref w, rfl, w, C, dx, _, _, rfl, s1 _ _ h1, T.cl, T.n4, lk5n _ _ _ _ _, d, _, rfl, DGet.t (k := [.inl u, .inl v]) (s1 _ _ h4) upd_same, ?_⟩
    rw [valV_both]
    cases hl : look TT u v with
    | none =>
      rw [hl] at q
      exact ⟨_, rfl, q _ s1⟩
    | some m =>
      rw [hl] at q
      refine ⟨_, rfl, .ref w, rfl, w, C, dx, _, _, rfl, s1 _ _ h1, T.cl, T.n4, lk5n _ _ _ _ _, _, rfl, _, rfl, (by show 2 ≤ sizeLine; decide), fun R2 nR2 => ?_⟩
      have s2 : Same (upd H R (.tup [.int u, .int v])) (upd (upd H R (.tup [.int u, .int v])) R2 (.tup [.int u, .int v])) := same_upd nR2
      have e2 := DGet.t (k := [.inl u, .inl v]) (s2 _ _ (s1 _ _ h4)) (upd_same (H := upd H R (.tup [.int u, .int v])) (a := R2) (o := .tup [.int u, .int v]))
      rw [valV_both, hl] at e2
      exact ⟨d, _, rfl, e2, q _ (s1.trans s2)⟩
theorem ok_cont {C f fp : Addr} {fd fdp : FuncData} {k : Nat} (F : Fun K "__contains__" "Web.__contains__" sCont f fd) (T : TxtW K mg C) (GP : FnOk P w K mg base CX0 k fp fdp ["thing", "size"] (spPair K)) (gP : mg "_is_pair" = some (.ref fp)) (kP : PySem.W.keepIn K (.ref fp) = true)
    (bP : Binds K fdp ["thing", "size"] []) : FnOk P w K mg base CX0 (k + 1) f fd ["self", "x"] (spCont K C) := by
  refine F.ok scCo (fun vs H Q E h => ?_) (fun cdv A outer s H vs Q E hr h => ?_)
  · obtain ⟨w, x, n, T, r, rfl, _⟩ := h
    rfl
  · obtain ⟨w, x, n, TT, r, rfl, hW, ⟨t0, b, ty, hb, r0, r1⟩, q⟩ := h
    have hu := hu_of hr
    obtain ⟨dx, t, ys, d, g, h1, h2, h3, h4, h5⟩ := hW.ex
    refine ⟨_, pss_one (ps_ret (pe_and (pe_call GP hr rfl gP kP bP .nil pass0 (pa_cons (pv 1) (pa_cons (pe_fld (pv 0) rfl) pa_nil)))
      (pe_one (pe_cmp (pc_din hu (pe_tup (pa_cons (pe_ix ix_tup (pv 1) pe_int (fun _ _ => rfl)) (pa_cons (pe_ix ix_tup (pv 1) pe_int (fun _ _ => rfl)) pa_nil))) (pe_fld (pv 0) rfl)) rfl)))), ?_⟩
    refine ⟨x, rfl, .ref w, rfl, w, C, dx, _, _, rfl, h1, T.cl, T.n1, lk5s _ _ _ _ _, x, t0, (n : Int), b, rfl, ty, hb, b, rfl, ?_⟩
    cases b with
    | false => rw [r0 rfl] at q; exact q H (Same.refl H)
    | true =>
      obtain ⟨a, u, v, rfl, hS, rfl⟩ := r1 rfl
      have i0 : atI [V.int u, V.int v] 0 = some (.int u) := atI_nat (xs := [V.int u, V.int v]) (j := 0) rfl
      have i1 : atI [V.int u, V.int v] 1 = some (.int v) := atI_nat (xs := [V.int u, V.int v]) (j := 1) rfl
      refine ⟨.ref a, rfl, a, _, 0, _, rfl, rfl, hS, i0, .ref a, rfl, a, _, 1, _, rfl, rfl, hS, i1, (by show 2 ≤ sizeLine; decide), fun R nR => ?_⟩
      have s1 : Same H (upd H R (.tup [.int u, .int v])) := same_upd nR
      refine ⟨.ref w, rfl, w, C, dx, _, _, rfl, s1 _ _ h1, T.cl, T.n4, lk5n _ _ _ _ _, d, _, rfl, DGet.t (k := [.inl u, .inl v]) (s1 _ _ h4) upd_same, ?_⟩
      rw [valV_both]
      have e : ((look TT u v).map V.int).isSome = (look TT u v).isSome := by cases look TT u v <;> rfl
      rw [e]
      exact q _ s1
end
end T77
/-! web == any value. -/
namespace T77
open PySem PySem.Spec PyProof.Rows L2 Wk
abbrev sEq : Stmt := inClass (top 15) 4
def d3 (p : T3) : PyData := .tuple [.int p.1, .int p.2.1, .int p.2.2]
theorem eqv3 (p q : T3) : PyData.eqv (d3 p) (d3 q) = decide (p = q) := by
  have e : PyData.eqv (d3 p) (d3 q) = ((p.1 == q.1) && ((p.2.1 == q.2.1) && ((p.2.2 == q.2.2) && true))) := by
    unfold d3
    first | rfl | kernel_rfl | (rw [PyData.eqv, PyData.eqvAll, PyData.eqvAll, PyData.eqvAll, PyData.eqvAll, PyData.eqv, PyData.eqv, PyData.eqv])
  rw [e, Bool.eq_iff_iff]
  simp only [Bool.and_true, Bool.and_eq_true, beq_iff_eq, decide_eq_true_eq]
  constructor
  · rintro ⟨a, b, c⟩
    exact Prod.ext a (Prod.ext b c)
  · rintro rfl
    exact ⟨rfl, rfl, rfl⟩
theorem eqvT : ∀ (T S : List T3), PyData.eqvAll (T.map d3) (S.map d3) = decide (T = S)
  | [], [] => by simp [PyData.eqvAll]
  | [], _ :: _ => by simp [PyData.eqvAll]
  | _ :: _, [] => by simp [PyData.eqvAll]
  | p :: T, q :: S => by
    rw [List.map_cons, List.map_cons, PyData.eqvAll, eqv3, eqvT T S, Bool.eq_iff_iff]
    simp
theorem Trs.dp {K : PySem.W.Frag} {H : Hp} : ∀ {xs : List V} {ps : List T3}, Trs K H xs ps → DpAll K H xs (ps.map d3)
  | [], [], _ => .nil
  | _ :: _, _ :: _, h => by
    obtain ⟨⟨t, rfl, hS⟩, h2⟩ := h
    exact .cons (.tup hS (.cons (.int _) (.cons (.int _) (.cons (.int _) .nil)))) (Trs.dp h2)
  | [], _ :: _, h => h.elim
  | _ :: _, [], h => h.elim
theorem shapedT (T : List T3) : SeqAt.shaped (.tuple (T.map d3)) = true := by
  have h1 : ∀ T : List T3, PyData.canLayAll0 (T.map d3) = true := fun T => by
    induction T with
    | nil => simp [PyData.canLayAll0]
    | cons p T ih => rw [List.map_cons, PyData.canLayAll0, ih, d3]; simp [PyData.canLay0, PyData.canLayAll0]
  have h2 : ∀ T : List T3, PyData.depthAll (T.map d3) ≤ 1 := fun T => by
    induction T with
    | nil => simp [PyData.depthAll]
    | cons p T ih => rw [List.map_cons, PyData.depthAll, d3]; simp [PyData.depth, PyData.depthAll]; omega
  unfold SeqAt.shaped
  rw [PyData.canLay0, PyData.depth, h1, Bool.true_and]
  have := h2 T
  exact decide_eq_true (by omega)
theorem eqvTT (T S : List T3) : PyData.eqv (.tuple (T.map d3)) (.tuple (S.map d3)) = decide (T = S) := by rw [PyData.eqv, eqvT]
/-- the class as a kind -/
structure KindW (K : PySem.W.Frag) (mg : Str → Option Value) (C : Addr) : Prop where
  ty : ∀ (H : Hp) (a dx : Addr) (fs : List (Str × V)), H a = some (.ins C dx fs) → TyX K H (.ref a) (.ref C)
  own : PySem.W.kitOne K (.ref C) (.ref C) = some true
  gW : mg "Web" = some (.ref C)
  mi : mg "isinstance" = none
def spEqW (K : PySem.W.Frag) (C : Addr) : Sp := fun vs H Q _ => ∃ w n T y, vs = [.ref w, y] ∧ WebAt K C H w n T ∧ ((∃ t, TyX K H y t ∧ PySem.W.kitOne K t (.ref C) = some false ∧ Q (.bl false) H) ∨
  ∃ w2 n2 T2, y = .ref w2 ∧ WebAt K C H w2 n2 T2 ∧ Q (.bl (decide (n = n2) && decide (T = T2))) H)
theorem scEq : FnScope ["self", "other"] ["self", "other"] (defScope sEq) := ⟨rfl, rfl, rfl, by decide +kernel, rfl, by decide +kernel, by decide +kernel⟩
section
variable {P : Program} {w : World} {K : PySem.W.Frag} {mg : Str → Option Value} {base : Heap}
theorem ok_eq {C f : Addr} {fd : FuncData} {k : Nat} (F : Fun K "__eq__" "Web.__eq__" sEq f fd) (T : TxtW K mg C) (G : KindW K mg C) : FnOk P w K mg base CX0 (k + 1) f fd ["self", "other"] (spEqW K C) := by
  refine F.ok scEq (fun vs H Q E h => ?_) (fun cdv A outer s H vs Q E hr h => ?_)
  · obtain ⟨w, n, T, y, rfl, _⟩ := h
    rfl
  · obtain ⟨w, n, TT, y, rfl, hW, q⟩ := h
    obtain ⟨dx, t, ys, d, g, h1, h2, h3, h4, h5⟩ := hW.ex
    refine ⟨_, pss_one (ps_ret (pe_and (pe_callB call_isi (by rfl) G.mi (by decide +kernel) (pa_cons (pv 1) (pa_cons (pe_glob (v := .ref C) rfl G.gW rfl) pa_nil)))
      (pe_and (pe_cmpR op_eq (pe_fld (pv 0) rfl) (pe_fld (pv 1) rfl) (nomark _)) (pe_one (pe_cmpR (op_eqD hr.units) (pe_fld (pv 0) rfl) (pe_fld (pv 1) rfl) (nomark _)))))), ?_⟩
    rcases q with ⟨ty, hty, hk, q⟩ | ⟨w2, n2, T2, rfl, hW2, q⟩
    · exact ⟨y, rfl, y, _, _, _, _, rfl, .own C, hty, hk, false, rfl, q⟩
    · obtain ⟨dx2, t2, ys2, d2, g2, k1, k2, k3, k4, k5⟩ := hW2.ex
      refine ⟨_, rfl, _, _, _, _, _, rfl, .own C, G.ty _ _ _ _ k1, G.own, true, rfl, ?_⟩
      refine ⟨.ref w, rfl, w, C, dx, _, _, rfl, h1, T.cl, T.n1, lk5s _ _ _ _ _, .ref w2, rfl, w2, C, dx2, _, _, rfl, k1, T.cl, T.n1, lk5s _ _ _ _ _, rfl, decide (n = n2), ?_⟩
      have e : decide (V.int (n : Int) = V.int (n2 : Int)) = decide (n = n2) := by
        rw [Bool.eq_iff_iff]
        simp only [decide_eq_true_eq]
        constructor
        · intro z; injection z with z; omega
        · rintro rfl; rfl
      refine ⟨by rw [e], ?_⟩
      by_cases hn : n = n2
      · rw [decide_eq_true hn]
        rw [decide_eq_true hn, Bool.true_and] at q
        refine ⟨.ref w, rfl, w, C, dx, _, _, rfl, h1, T.cl, T.n2, lk5t _ _ _ _ _, .ref w2, rfl, w2, C, dx2, _, _, rfl, k1, T.cl, T.n2, lk5t _ _ _ _ _, _, _, .tup (.inl (.inl h2)) h3.dp, .tup (.inl (.inl k2)) k3.dp, shapedT _, shapedT _, ?_⟩
        rw [eqvTT]
        exact q
      · rw [decide_eq_false hn]
        rw [decide_eq_false hn, Bool.false_and] at q
        exact q
end
end T77
/-! The law's dict of sums, as a list of triples with different pairs. -/
namespace T77
open PySem PySem.Spec PyProof.Rows L2 Wk
/-- an entry of the dict -/
def ent (p : T3) : List Key × V := ([.inl p.1, .inl p.2.1], .int p.2.2)
/-- no pair twice -/
def Dif (S : List T3) : Prop := S.Pairwise fun p q => ¬ key p q
theorem ent_key {p : T3} {u v : Int} : ((ent p).1 = ([.inl u, .inl v] : List Key)) ↔ (p.1 = u ∧ p.2.1 = v) := by
  unfold ent
  constructor
  · intro e
    injection e with e1 e2
    injection e2 with e2 _
    exact ⟨by injection e1, by injection e2⟩
  · rintro ⟨rfl, rfl⟩; rfl
/-- what the dict holds at a pair -/
theorem valV_ent : ∀ {S : List T3} {u v : Int}, Dif S → valV (S.map ent) [.inl u, .inl v] = none ∧ (∀ p ∈ S, ¬ (p.1 = u ∧ p.2.1 = v)) ∨ valV (S.map ent) [.inl u, .inl v] = some (.int (amt S u v)) ∧ ∃ p ∈ S, p.1 = u ∧ p.2.1 = v
  | [], _, _, _ => .inl ⟨rfl, fun p hp => (by cases hp)⟩
  | p :: S, u, v, h => by
    obtain ⟨h1, h2⟩ := List.pairwise_cons.mp h
    have ih := valV_ent (u := u) (v := v) h2
    unfold valV at ih ⊢
    rw [List.map_cons]
    by_cases hk : p.1 = u ∧ p.2.1 = v
    · refine .inr ⟨?_, p, List.mem_cons_self, hk⟩
      rw [List.find?_cons_of_pos (by simpa using ent_key.mpr hk), amt_cons, if_pos hk, amt_zero fun q hq k => h1 q hq ⟨hk.1.trans k.1.symm, hk.2.trans k.2.symm⟩, Int.add_zero]
      rfl
    · rw [List.find?_cons_of_neg (by simpa using fun e => hk (ent_key.mp e)), amt_cons, if_neg hk, Int.zero_add]
      rcases ih with ⟨a, b⟩ | ⟨a, q, hq, b⟩
      · refine .inl ⟨a, fun q hq => ?_⟩
        rcases List.mem_cons.mp hq with rfl | hq
        · exact hk
        · exact b q hq
      · exact .inr ⟨a, q, List.mem_cons_of_mem _ hq, b⟩
theorem get_ent {S : List T3} {u v : Int} (h : Dif S) : (valV (S.map ent) [.inl u, .inl v]).getD (.int 0) = .int (amt S u v) := by
  rcases valV_ent (u := u) (v := v) h with ⟨a, b⟩ | ⟨a, _⟩
  · rw [a, amt_zero b]; rfl
  · rw [a]; rfl
/-- one number more at a pair -/
def setS (S : List T3) (u v c : Int) : List T3 :=
  if (S.any fun q => decide (q.1 = u ∧ q.2.1 = v)) = true then S.map fun q => if q.1 = u ∧ q.2.1 = v then (u, v, c) else q else S ++ [(u, v, c)]
theorem put_ent {S : List T3} {u v c : Int} : putK (S.map ent) [.inl u, .inl v] (.int c) = (setS S u v c).map ent := by
  unfold putK setS
  have e : ((S.map ent).any fun kv => decide (kv.1 = ([.inl u, .inl v] : List Key))) = S.any fun q => decide (q.1 = u ∧ q.2.1 = v) := by
    rw [List.any_map]
    congr 1
    funext q
    exact decide_eq_decide.mpr ent_key
  rw [e]
  split
  · rw [List.map_map, List.map_map]
    refine List.map_congr_left fun q _ => ?_
    show (if (ent q).1 = ([.inl u, .inl v] : List Key) then ((ent q).1, V.int c) else ent q) = ent (if q.1 = u ∧ q.2.1 = v then (u, v, c) else q)
    by_cases hk : q.1 = u ∧ q.2.1 = v
    · rw [if_pos hk, if_pos (ent_key.mpr hk), ent_key.mpr hk]
      rfl
    · rw [if_neg hk, if_neg fun z => hk (ent_key.mp z)]
  · rw [List.map_append]
    rfl
theorem setS_mem {S : List T3} {u v c : Int} {p : T3} (hp : p ∈ setS S u v c) : p ∈ S ∨ p = (u, v, c) := by
  unfold setS at hp
  split at hp
  · obtain ⟨q, hq, rfl⟩ := List.mem_map.mp hp
    split
    · exact .inr rfl
    · exact .inl hq
  · rcases List.mem_append.mp hp with h | h
    · exact .inl h
    · exact .inr (List.mem_singleton.mp h)
theorem setS_dif {S : List T3} {u v c : Int} (h : Dif S) : Dif (setS S u v c) := by
  unfold setS
  split
  · refine List.pairwise_map.mpr (h.imp fun {p q} hpq => ?_)
    unfold key at *
    split <;> split <;> ((try dsimp only) <;> omega)
  · rename_i hn
    refine List.pairwise_append.mpr ⟨h, List.pairwise_singleton .., fun p hp q hq k => hn ?_⟩
    cases List.mem_singleton.mp hq
    exact List.any_eq_true.mpr ⟨p, hp, by simpa [key] using k⟩
theorem setS_amt : ∀ {S : List T3} {u v c : Int}, Dif S → ∀ a b, amt (setS S u v c) a b = if a = u ∧ b = v then c else amt S a b := by
  intro S u v c h a b
  have one : amt [(u, v, c)] a b = if a = u ∧ b = v then c else 0 := by
    rw [amt_cons, amt_nil]
    dsimp only
    by_cases hk : a = u ∧ b = v
    · rw [if_pos hk, if_pos ⟨hk.1.symm, hk.2.symm⟩, Int.add_zero]
    · rw [if_neg hk, if_neg fun z => hk ⟨z.1.symm, z.2.symm⟩, Int.add_zero]
  unfold setS
  split
  · rename_i he
    obtain ⟨q0, hq0, k0⟩ := List.any_eq_true.mp he
    have k0 : q0.1 = u ∧ q0.2.1 = v := by simpa using k0
    induction S with
    | nil => cases hq0
    | cons p S ih =>
      obtain ⟨h1, h2⟩ := List.pairwise_cons.mp h
      rw [List.map_cons, amt_cons, amt_cons]
      by_cases hp : p.1 = u ∧ p.2.1 = v
      · have rest : S.map (fun q => if q.1 = u ∧ q.2.1 = v then (u, v, c) else q) = S := by
          have : S.map (fun q => if q.1 = u ∧ q.2.1 = v then (u, v, c) else q) = S.map id := List.map_congr_left fun q hq => if_neg fun k => h1 q hq ⟨hp.1.trans k.1.symm, hp.2.trans k.2.symm⟩
          rw [this, List.map_id]
        rw [rest, if_pos hp]
        dsimp only
        by_cases hk : a = u ∧ b = v
        · rw [if_pos hk, if_pos ⟨hk.1.symm, hk.2.symm⟩, amt_zero fun q hq k => h1 q hq ⟨hp.1.trans (hk.1.symm.trans k.1.symm), hp.2.trans (hk.2.symm.trans k.2.symm)⟩, Int.add_zero]
        · rw [if_neg hk, if_neg fun z => hk ⟨z.1.symm, z.2.symm⟩, if_neg fun z => hk ⟨z.1.symm.trans hp.1, z.2.symm.trans hp.2⟩]
      · have hm : q0 ∈ S := by
          rcases List.mem_cons.mp hq0 with rfl | h
          · exact absurd k0 hp
          · exact h
        have ih := ih h2 (List.any_eq_true.mpr ⟨q0, hm, by simpa using k0⟩) hm
        rw [if_neg hp, ih]
        by_cases hk : a = u ∧ b = v
        · rw [if_pos hk, if_neg fun z => hp ⟨z.1.trans hk.1, z.2.trans hk.2⟩, Int.zero_add, if_pos hk]
        · rw [if_neg hk, if_neg hk]
  · rename_i hn
    rw [amt_append, one]
    by_cases hk : a = u ∧ b = v
    · rw [if_pos hk, if_pos hk, amt_zero fun q hq k => hn (List.any_eq_true.mpr ⟨q, hq, by simpa using ⟨k.1.trans hk.1, k.2.trans hk.2⟩⟩), Int.zero_add]
    · rw [if_neg hk, if_neg hk, Int.add_zero]
theorem setS_length {S : List T3} {u v c : Int} : (setS S u v c).length ≤ S.length + 1 := by
  unfold setS
  split
  · rw [List.length_map]; omega
  · rw [List.length_append, List.length_singleton]; omega
/-- the sums of a list of normal triples -/
structure SumsOf (l S : List T3) : Prop where
  dif : Dif S
  am : ∀ u v, amt S u v = amt l u v
  mem : ∀ p ∈ S, ∃ q ∈ l, key q p
  len : S.length ≤ l.length
theorem SumsOf.nil : SumsOf [] [] := ⟨.nil, fun _ _ => rfl, fun p hp => (by cases hp), Nat.le_refl _⟩
theorem SumsOf.put {l S : List T3} {p : T3} (h : SumsOf l S) : SumsOf (l ++ [p]) (setS S p.1 p.2.1 (amt S p.1 p.2.1 + p.2.2)) := by
  refine ⟨setS_dif h.dif, fun u v => ?_, fun q hq => ?_, ?_⟩
  · rw [setS_amt h.dif, amt_append, amt_cons, amt_nil, ← h.am]
    by_cases hk : u = p.1 ∧ v = p.2.1
    · rw [if_pos hk, if_pos ⟨hk.1.symm, hk.2.symm⟩, hk.1, hk.2, Int.add_zero]
    · rw [if_neg hk, if_neg fun z => hk ⟨z.1.symm, z.2.symm⟩, Int.add_zero, Int.add_zero]
  · rcases setS_mem hq with hq | rfl
    · obtain ⟨r, hr, k⟩ := h.mem q hq
      exact ⟨r, by simp [hr], k⟩
    · exact ⟨p, by simp, rfl, rfl⟩
  · have := setS_length (S := S) (u := p.1) (v := p.2.1) (c := amt S p.1 p.2.1 + p.2.2)
    have := h.len
    rw [List.length_append, List.length_singleton]
    omega
end T77
/-! What stays when a dict changes, when the bag changes. -/
namespace T77
open PySem PySem.Spec PyProof.Rows L2 Wk
theorem SqT.butT {K : PySem.W.Frag} {H H' : Hp} {D t : Addr} {kvs : List (List Key × V)} {xs : List V} (hD : H D = some (.dT kvs)) (h : SqT K H t xs) (b : But D H H') : SqT K H' t xs := by
  rcases h with (h | ⟨o, h⟩) | h
  · exact .inl (.inl (b t _ (fun e => by rw [e, hD] at h; cases h) h))
  · exact .inl (.inr ⟨o, b t _ (fun e => by rw [e, hD] at h; cases h) h⟩)
  · exact .inr h
theorem SqL.butT {K : PySem.W.Frag} {H H' : Hp} {D t : Addr} {kvs : List (List Key × V)} {xs : List V} (hD : H D = some (.dT kvs)) (h : SqL K H t xs) (b : But D H H') : SqL K H' t xs := by
  rcases h with (h | ⟨o, h⟩) | h
  · exact .inl (.inl (b t _ (fun e => by rw [e, hD] at h; cases h) h))
  · exact .inl (.inr ⟨o, b t _ (fun e => by rw [e, hD] at h; cases h) h⟩)
  · exact .inr h
theorem Trs.butT {K : PySem.W.Frag} {H H' : Hp} {D : Addr} {kvs : List (List Key × V)} (hD : H D = some (.dT kvs)) (b : But D H H') : ∀ {xs : List V} {ps : List T3}, Trs K H xs ps → Trs K H' xs ps
  | [], [], _ => True.intro
  | _ :: _, _ :: _, h => ⟨let ⟨t, e, q⟩ := h.1; ⟨t, e, SqT.butT hD q b⟩, Trs.butT hD b h.2⟩
  | [], _ :: _, h => h.elim
  | _ :: _, [], h => h.elim
theorem BagAt.put {H : Hp} {b l F : Addr} {o : HO} {n : Nat} (B : BagAt H b l n) (h1 : F ≠ b) (h2 : F ≠ l) : BagAt (upd H F o) b l n := by
  obtain ⟨x0, x1, x2, cs, g1, g2, g3⟩ := B.ex
  exact ⟨x0, x1, x2, cs, by rw [upd_ne (Ne.symm h1)]; exact g1, by rw [upd_ne (Ne.symm h2)]; exact g2, g3⟩
theorem BagAt.in' {H : Hp} {b l : Addr} {n : Nat} (B : BagAt H b l n) : (∃ xs, H b = some (.lst xs)) ∧ ∃ xs, H l = some (.lst xs) := by
  obtain ⟨x0, x1, x2, cs, g1, g2, g3⟩ := B.ex
  exact ⟨⟨_, g1⟩, _, g2⟩
end T77
/-! The mathematics of degrees: each is the sum of the bundles at a place, together twice the ties. -/
namespace T77
open PySem PySem.Spec PyProof.Rows L2 Wk
theorem sum_ind (n : Nat) (t m : Int) : ((List.range n).map fun (v : Nat) => if t = (v : Int) then m else 0).sum = if 0 ≤ t ∧ t < n then m else 0 := by
  induction n with
  | zero => rw [if_neg (by omega)]; rfl
  | succ n ih =>
    rw [List.range_succ, List.map_append, List.sum_append, ih, List.map_singleton, List.sum_singleton]
    by_cases h : t = (n : Int)
    · rw [if_pos h, if_neg (by omega), if_pos (by omega), Int.zero_add]
    · rw [if_neg h, Int.add_zero]
      by_cases h2 : 0 ≤ t ∧ t < n
      · rw [if_pos h2, if_pos (by omega)]
      · rw [if_neg h2, if_neg (by omega)]
theorem sum_add {α : Type} (l : List α) (f g : α → Int) : (l.map fun x => f x + g x).sum = (l.map f).sum + (l.map g).sum := by
  induction l with
  | nil => rfl
  | cons x l ih => rw [List.map_cons, List.map_cons, List.map_cons, List.sum_cons, List.sum_cons, List.sum_cons, ih]; omega
/-- the ties at a place -/
def inc (T : List T3) (u : Int) : Int := (T.map fun p => (if p.1 = u then p.2.2 else 0) + (if p.2.1 = u then p.2.2 else 0)).sum
theorem inc_cons {p : T3} {T : List T3} {u : Int} : inc (p :: T) u = (if p.1 = u then p.2.2 else 0) + (if p.2.1 = u then p.2.2 else 0) + inc T u := by unfold inc; rw [List.map_cons, List.sum_cons]
theorem inc_append {T S : List T3} {u : Int} : inc (T ++ S) u = inc T u + inc S u := by unfold inc; rw [List.map_append, List.sum_append]
theorem look_none {T : List T3} {u v : Int} (h : ∀ p ∈ T, ¬ ((p.1 = u ∧ p.2.1 = v) ∨ (p.2.1 = u ∧ p.1 = v))) : look T u v = none := by
  induction T with
  | nil => rfl
  | cons p T ih => unfold look; rw [if_neg (h p List.mem_cons_self)]; exact ih fun q hq => h q (List.mem_cons_of_mem _ hq)
theorem deg_inc : ∀ {T : List T3} {n : Nat} {u : Int}, T.Pairwise lt2 → (∀ p ∈ T, 0 ≤ p.1 ∧ p.1 < p.2.1 ∧ p.2.1 < (n : Int) ∧ 0 < p.2.2) → deg T n u = inc T u
  | [], n, u, _, _ => by
    unfold deg inc
    induction List.range n with
    | nil => rfl
    | cons v l ih => rw [List.map_cons, List.sum_cons, ih]; rfl
  | p :: T, n, u, h, hm => by
    obtain ⟨h1, h2⟩ := List.pairwise_cons.mp h
    obtain ⟨m0, m1, m2, m3⟩ := hm p List.mem_cons_self
    have ih := deg_inc (u := u) h2 fun q hq => hm q (List.mem_cons_of_mem _ hq)
    have e : ∀ v : Nat, (look (p :: T) u (v : Int)).getD 0 = ((if p.1 = u then (if p.2.1 = (v : Int) then p.2.2 else 0) else 0) + (if p.2.1 = u then (if p.1 = (v : Int) then p.2.2 else 0) else 0)) + (look T u (v : Int)).getD 0 := fun v => by
      by_cases hk : (p.1 = u ∧ p.2.1 = (v : Int)) ∨ (p.2.1 = u ∧ p.1 = (v : Int))
      · have hn : look T u (v : Int) = none := look_none fun q hq k => by
          have := h1 q hq
          have := hm q (List.mem_cons_of_mem _ hq)
          unfold lt2 at *
          omega
        rw [hn]
        unfold look
        rw [if_pos hk]
        show p.2.2 = _ + 0
        rcases hk with ⟨a, b⟩ | ⟨a, b⟩
        · rw [if_pos a, if_pos b, if_neg (by omega)]; omega
        · rw [if_neg (by omega), if_pos a, if_pos b]; omega
      · have e1 : look (p :: T) u (v : Int) = look T u (v : Int) := by
          conv => lhs; unfold look
          rw [if_neg hk]
        rw [e1]
        have z1 : (if p.1 = u then (if p.2.1 = (v : Int) then p.2.2 else 0) else 0) = 0 := by
          by_cases a : p.1 = u
          · rw [if_pos a, if_neg fun b => hk (.inl ⟨a, b⟩)]
          · rw [if_neg a]
        have z2 : (if p.2.1 = u then (if p.1 = (v : Int) then p.2.2 else 0) else 0) = 0 := by
          by_cases a : p.2.1 = u
          · rw [if_pos a, if_neg fun b => hk (.inr ⟨a, b⟩)]
          · rw [if_neg a]
        rw [z1, z2]
        omega
    rw [inc_cons, ← ih]
    unfold deg
    have e' : ((List.range n).map fun (v : Nat) => (look (p :: T) u (v : Int)).getD 0) = (List.range n).map fun (v : Nat) => ((if p.1 = u then (if p.2.1 = (v : Int) then p.2.2 else 0) else 0) + (if p.2.1 = u then (if p.1 = (v : Int) then p.2.2 else 0) else 0)) + (look T u (v : Int)).getD 0 := List.map_congr_left fun v _ => e v
    rw [e', sum_add, sum_add]
    have s1 : ((List.range n).map fun (v : Nat) => if p.1 = u then (if p.2.1 = (v : Int) then p.2.2 else 0) else 0).sum = if p.1 = u then p.2.2 else 0 := by
      by_cases a : p.1 = u
      · simp only [if_pos a]
        rw [sum_ind, if_pos (by omega)]
      · simp only [if_neg a]
        induction List.range n with
        | nil => rfl
        | cons v l ih => rw [List.map_cons, List.sum_cons, ih]; rfl
    have s2 : ((List.range n).map fun (v : Nat) => if p.2.1 = u then (if p.1 = (v : Int) then p.2.2 else 0) else 0).sum = if p.2.1 = u then p.2.2 else 0 := by
      by_cases a : p.2.1 = u
      · simp only [if_pos a]
        rw [sum_ind, if_pos (by omega)]
      · simp only [if_neg a]
        induction List.range n with
        | nil => rfl
        | cons v l ih => rw [List.map_cons, List.sum_cons, ih]; rfl
    rw [s1, s2]
/-- all degrees together are twice the ties -/
theorem sum_inc : ∀ {T : List T3} {n : Nat}, (∀ p ∈ T, 0 ≤ p.1 ∧ p.1 < p.2.1 ∧ p.2.1 < (n : Int) ∧ 0 < p.2.2) → ((List.range n).map fun (u : Nat) => inc T (u : Int)).sum = 2 * total T
  | [], n, _ => by
    show _ = 2 * (0 : Int)
    unfold inc
    induction List.range n with
    | nil => rfl
    | cons v l ih => rw [List.map_cons, List.sum_cons, ih]; rfl
  | p :: T, n, hm => by
    obtain ⟨m0, m1, m2, m3⟩ := hm p List.mem_cons_self
    have ih := sum_inc (n := n) fun q hq => hm q (List.mem_cons_of_mem _ hq)
    have e' : ((List.range n).map fun (u : Nat) => inc (p :: T) (u : Int)) = (List.range n).map fun (u : Nat) => ((if p.1 = (u : Int) then p.2.2 else 0) + (if p.2.1 = (u : Int) then p.2.2 else 0)) + inc T (u : Int) := List.map_congr_left fun u _ => inc_cons
    rw [e', sum_add, sum_add, sum_ind, sum_ind, if_pos (by omega), if_pos (by omega), ih]
    unfold total
    rw [List.map_cons, List.sum_cons]
    omega
end T77
/-! What web[u, v] tells, and the law's dict against the web's ties. -/
namespace T77
open PySem PySem.Spec PyProof.Rows L2 Wk
theorem look_symm : ∀ (T : List T3) (u v : Int), look T u v = look T v u
  | [], _, _ => rfl
  | p :: T, u, v => by
    unfold look
    rw [look_symm T u v]
    by_cases h : (p.1 = u ∧ p.2.1 = v) ∨ (p.2.1 = u ∧ p.1 = v)
    · rw [if_pos h, if_pos (h.elim (fun a => .inr ⟨a.2, a.1⟩) fun a => .inl ⟨a.2, a.1⟩)]
    · rw [if_neg h, if_neg fun k => h (k.elim (fun a => .inr ⟨a.2, a.1⟩) fun a => .inl ⟨a.2, a.1⟩)]
theorem look_mem : ∀ {T : List T3}, T.Pairwise lt2 → (∀ p ∈ T, p.1 < p.2.1) → ∀ {p : T3}, p ∈ T → look T p.1 p.2.1 = some p.2.2
  | q :: T, h, hm, p, hp => by
    obtain ⟨h1, h2⟩ := List.pairwise_cons.mp h
    unfold look
    rcases List.mem_cons.mp hp with rfl | hp
    · rw [if_pos (.inl ⟨rfl, rfl⟩)]
    · have a := h1 p hp
      have b := hm q List.mem_cons_self
      have c := hm p (List.mem_cons_of_mem _ hp)
      rw [if_neg (by unfold lt2 at *; omega)]
      exact look_mem h2 (fun r hr => hm r (List.mem_cons_of_mem _ hr)) hp
/-- web[u, v] for u below v -/
theorem look_amt {T : List T3} {n : Int} {am : Int → Int → Int} (h : TiesOf n am T) {u v : Int} (huv : u < v) : (look T u v).getD 0 = am u v ∧ (look T u v).isSome = decide (0 < am u v) := by
  by_cases c : ∃ p ∈ T, p.1 = u ∧ p.2.1 = v
  · obtain ⟨p, hp, rfl, rfl⟩ := c
    have e := look_mem h.asc (fun q hq => (h.mem q hq).2.1) hp
    have a := amt_mem h.asc hp
    have b := (h.mem p hp).2.2.2
    rw [e, ← h.am, a]
    exact ⟨rfl, (decide_eq_true b).symm⟩
  · have e : look T u v = none := look_none fun p hp k => by
      rcases k with k | k
      · exact c ⟨p, hp, k⟩
      · have := (h.mem p hp).2.1
        omega
    have a : amt T u v = 0 := amt_zero fun p hp k => c ⟨p, hp, k⟩
    rw [e, ← h.am, a]
    exact ⟨rfl, rfl⟩
theorem look_norm {T : List T3} {n : Int} {am : Int → Int → Int} (h : TiesOf n am T) {u v : Int} (huv : u ≠ v) :
    (look T u v).getD 0 = am (norm (u, v, 0)).1 (norm (u, v, 0)).2.1 ∧ (look T u v).isSome = decide (0 < am (norm (u, v, 0)).1 (norm (u, v, 0)).2.1) := by
  by_cases hlt : u < v
  · have e1 : (norm (u, v, 0)).1 = u := by show (if v < u then v else u) = u; rw [if_neg (by omega)]
    have e2 : (norm (u, v, 0)).2.1 = v := by show (if v > u then v else u) = v; rw [if_pos hlt]
    rw [e1, e2]
    exact look_amt h hlt
  · have e1 : (norm (u, v, 0)).1 = v := by show (if v < u then v else u) = v; rw [if_pos (by omega)]
    have e2 : (norm (u, v, 0)).2.1 = u := by show (if v > u then v else u) = u; rw [if_neg (by omega)]
    rw [e1, e2, look_symm]
    exact look_amt h (by omega)
/-- the sums in the order of sorted, without the empty ones, are the ties -/
theorem SumsOf.ties {l S Z : List T3} {n : Int} (h : SumsOf l S) (hl : ∀ p ∈ l, 0 ≤ p.1 ∧ p.1 < p.2.1 ∧ p.2.1 < n ∧ 0 ≤ p.2.2) (hp : Z.Perm S) (ho : Z.Pairwise fun p q => lt2 p q ∨ key p q) : TiesOf n (amt l) (Z.filter fun p => decide (0 < p.2.2)) := by
  have hd : Dif Z := (hp.pairwise_iff (R := fun p q => ¬ key p q) fun {p q} k z => k ⟨z.1.symm, z.2.symm⟩).mpr h.dif
  have hk : ∀ p ∈ Z, 0 ≤ p.1 ∧ p.1 < p.2.1 ∧ p.2.1 < n := fun p hpz => by
    obtain ⟨q, hq, k⟩ := h.mem p (hp.mem_iff.mp hpz)
    have := hl q hq
    unfold key at k
    omega
  have hn : ∀ p ∈ Z, p.2.2 = amt l p.1 p.2.1 := fun p hpz => by
    rw [← h.am, ← amt_perm hp]
    have : ∀ {Z : List T3}, Dif Z → ∀ {p : T3}, p ∈ Z → amt Z p.1 p.2.1 = p.2.2 := by
      intro Z
      induction Z with
      | nil => intro _ p hp; cases hp
      | cons q Z ih =>
        intro hd p hp
        obtain ⟨h1, h2⟩ := List.pairwise_cons.mp hd
        rw [amt_cons]
        rcases List.mem_cons.mp hp with rfl | hp
        · rw [if_pos ⟨rfl, rfl⟩, amt_zero fun r hr k => h1 r hr ⟨k.1.symm, k.2.symm⟩, Int.add_zero]
        · rw [if_neg (show ¬ (q.1 = p.1 ∧ q.2.1 = p.2.1) from fun k => h1 p hp k), ih h2 hp, Int.zero_add]
    exact (this hd hpz).symm
  have h0 : ∀ p ∈ Z, 0 ≤ p.2.2 := fun p hpz => by rw [hn p hpz]; exact amt_nonneg fun q hq => (hl q hq).2.2.2
  refine ⟨List.Pairwise.filter _ ((List.pairwise_and_iff.mpr ⟨ho, hd⟩).imp fun {p q} k => k.1.resolve_right k.2), fun p hpf => ?_, fun u v => ?_⟩
  · obtain ⟨a, b⟩ := List.mem_filter.mp hpf
    have := hk p a
    exact ⟨this.1, this.2.1, this.2.2, by simpa using b⟩
  · rw [amt_pos h0, amt_perm hp, h.am]
end T77
/-! repr of a list of data whose tuples may be tracked or written in the text; the length of a number's text. -/
namespace Wk
open PySem PySem.Spec PyProof.Rows L2
theorem len_of (x : String) : ((x : Str)).length = x.length := by
  show (Str.ofString x).length = _
  rw [Str.ofString_eq_toList]
  show ((x.toList.map Char.toNat).toArray).size = _
  rw [List.size_toArray, List.length_map, String.length_toList]
theorem int_len {i : Int} {k : Nat} (hk : 0 < k) (h : i.natAbs < 10 ^ k) : (PyData.int i).shown.length ≤ k + 1 := by
  simp only [PyData.shown]
  rw [len_of]
  cases i with
  | ofNat n =>
    have e := (Nat.length_repr_le_iff (n := n) hk).mpr h
    show (Nat.repr n).length ≤ _
    omega
  | negSucc n =>
    have e := (Nat.length_repr_le_iff (n := n + 1) hk).mpr h
    show ("-" ++ Nat.repr (n + 1)).length ≤ _
    rw [String.length_append]
    have : ("-" : String).length = 1 := rfl
    omega
theorem int_show {i : Int} (h : i.natAbs < 10 ^ 15) : (PyData.int i).shown.length ≤ 16 ∧ (PyData.int i).showable = true := by
  refine ⟨int_len (by decide) h, ?_⟩
  simp only [PyData.showable]
  refine decide_eq_true ?_
  have : i.natAbs.log2 < 64 := by
    by_cases h0 : i.natAbs = 0
    · rw [h0]; decide
    · exact (Nat.log2_lt h0).mpr (Nat.lt_of_lt_of_le h (by decide))
  omega
mutual
/-- the value is such data, all its objects tracked -/
inductive Rq (K : PySem.W.Frag) (H : Hp) : V → PyData → Prop
  | non : Rq K H .non .none
  | bl (b : Bool) : Rq K H (.bl b) (.bool b)
  | int (i : Int) : Rq K H (.int i) (.int i)
  | str (x : Str) : Rq K H (.str x) (.str x)
  | lst {a : Addr} {vs : List V} {ds : List PyData} : H a = some (.lst vs) → RqAll K H vs ds → Rq K H (.ref a) (.list ds)
  | tup {a : Addr} {vs : List V} {ds : List PyData} : SqT K H a vs → RqAll K H vs ds → Rq K H (.ref a) (.tuple ds)
  | emp {a : Addr} : H a = some (.dT []) → Rq K H (.ref a) (.dict [])
inductive RqAll (K : PySem.W.Frag) (H : Hp) : List V → List PyData → Prop
  | nil : RqAll K H [] []
  | cons {v : V} {vs : List V} {d : PyData} {ds : List PyData} : Rq K H v d → RqAll K H vs ds → RqAll K H (v :: vs) (d :: ds)
end
section
variable {X : Cx} {pins : List (Addr × Obj)} {σ : L2.St} {H : Hp} {s : Shared}
mutual
theorem Rq.k (I : Inv X pins σ H s) : ∀ (d : PyData) (v : V) (u : Value), Rq X.K H v d → RelV v u → d.showable = true → d.shown.length ≤ sizeLine →
    (∃ as, Reads s.heap u d as) ∧ ∃ bs, ReadAtMost s.heap d.depth bs ∧ ReprK X.prog X.w bs s.heap d.depth u d.shown
  | .none, v, u, h, r, _, _ => by
    cases h; cases r
    refine ⟨⟨_, Reads.none⟩, [], (fun _ z => nomatch z), ?_⟩
    simp only [PyData.shown]; exact ReprK.of_is ReprIs.none _ _ _
  | .bool b, v, u, h, r, _, _ => by
    cases h; cases r
    refine ⟨⟨_, Reads.bool b⟩, [], (fun _ z => nomatch z), ?_⟩
    simp only [PyData.shown]; exact ReprK.of_is (ReprIs.bool b) _ _ _
  | .int i, v, u, h, r, hs, _ => by
    cases h
    obtain ⟨t, rfl⟩ := r
    refine ⟨⟨_, Reads.int i t⟩, [], (fun _ z => nomatch z), ?_⟩
    simp only [PyData.shown]; exact ReprK.of_is (ReprIs.int t (by simpa [PyData.showable] using hs)) _ _ _
  | .str x, v, u, h, r, _, hz => by
    cases h
    obtain ⟨t, rfl⟩ := r
    refine ⟨⟨_, Reads.str x t⟩, [], (fun _ z => nomatch z), ?_⟩
    simp only [PyData.shown] at hz ⊢; exact ReprK.of_is (ReprIs.str x t hz) _ _ _
  | .list ds, v, u, h, r, hs, hz => by
    cases h with
    | @lst a vs _ ha hall =>
      cases (show u = Value.ref a from r)
      obtain ⟨_, its, n, rv, e⟩ := (show ObjOk X.prog X.w H s.heap a (.lst vs) from I.hok a _ ha)
      simp only [PyData.shown] at hz
      simp only [PyData.showable] at hs
      obtain ⟨⟨as, ra⟩, bs, hb, hk⟩ := RqAll.k I ds vs its hall rv hs (fun t ht => Nat.le_trans (listText_mem_le ht) hz)
      have hr : Reads s.heap (.ref a) (.list ds) (a :: as) := Reads.list (vs := its.toArray) e rfl rfl (by simpa using ra)
      have hna : a ∉ bs := not_mem_of_deeper hr (by simp only [PyData.depth]; omega) hb
      refine ⟨⟨_, hr⟩, a :: bs, ReadAtMost.cons hr (by simp only [PyData.depth]; omega) hb, ?_⟩
      simp only [PyData.depth, PyData.shown]
      cases its with
      | nil =>
        cases ra
        simp only [PyData.shownAll, listText_nil]
        exact ReprK.listEmpty e rfl rfl
      | cons y l => exact ReprK.list e rfl rfl hna (by simpa using hk.length_eq) (fun i z q => hk.item i z (by simpa using q))
  | .tuple ds, v, u, h, r, hs, hz => by
    cases h with
    | @tup a vs _ ha hall =>
      cases (show u = Value.ref a from r)
      obtain ⟨its, rv, ⟨o, e1, e2, n, e3⟩, _⟩ := I.tuple ha
      simp only [PyData.shown] at hz
      simp only [PyData.showable] at hs
      obtain ⟨⟨as, ra⟩, bs, hb, hk⟩ := RqAll.k I ds vs its hall rv hs (fun t ht => Nat.le_trans (tupleText_mem_le ht) hz)
      have hr : Reads s.heap (.ref a) (.tuple ds) as := Reads.tuple (vs := its.toArray) e1 e2 e3 (by simpa using ra)
      have hna : a ∉ bs := not_mem_of_deeper hr (by simp only [PyData.depth]; omega) hb
      refine ⟨⟨_, hr⟩, a :: bs, ReadAtMost.cons hr (by simp only [PyData.depth]; omega) hb, ?_⟩
      simp only [PyData.depth, PyData.shown]
      exact ReprK.tuple e1 e2 e3 hna (by simpa using hk)
  | .dict ps, v, u, h, r, _, _ => by
    cases h with
    | @emp a ha =>
      cases (show u = Value.ref a from r)
      obtain ⟨_, hsys, xs, hp, o, es, ep, e, ed, od, hes, _⟩ := (show ObjOk X.prog X.w H s.heap a (.dT []) from I.hok a _ ha)
      cases hp
      have hes : es.toList = [] := hes
      have hr : Reads s.heap (.ref a) (.dict []) ([a] ++ []) := Reads.dict e ed.1 od (by rw [hes]; exact ReadsAll.nil) (by rw [hes]; exact ReadsAll.nil)
      refine ⟨⟨_, hr⟩, [a], ReadAtMost.cons hr (Nat.le_refl _) (fun _ z => nomatch z), ?_⟩
      have hk := ReprK.dict (prog := X.prog) (w := X.w) (as := []) (d := 0) (ps := []) e ed.1 od hsys (fun z => nomatch z) (by rw [hes]; exact .nil)
      have e1 : (PyData.dict []).shown = dictText [] := by simp only [PyData.shown, PyData.shownKv]
      rw [e1]
      exact hk.level_le (by simp only [PyData.depth]; omega)
theorem RqAll.k (I : Inv X pins σ H s) : ∀ (ds : List PyData) (vs : List V) (us : List Value), RqAll X.K H vs ds → Vals vs us → PyData.showableAll ds = true → (∀ t ∈ PyData.shownAll ds, t.length ≤ sizeLine) →
    (∃ as, ReadsAll s.heap us ds as) ∧ ∃ bs, ReadAtMost s.heap (PyData.depthAll ds) bs ∧ ReprAllK X.prog X.w bs s.heap (PyData.depthAll ds) us (PyData.shownAll ds)
  | [], vs, us, h, r, _, _ => by
    cases h; cases r
    refine ⟨⟨_, ReadsAll.nil⟩, [], (fun _ z => nomatch z), ?_⟩
    simp only [PyData.shownAll]; exact ReprAllK.nil
  | d :: ds, vs, us, h, r, hs, hz => by
    cases h with
    | cons h1 h2 =>
      cases r with
      | cons r1 r2 =>
        simp only [PyData.showableAll, Bool.and_eq_true] at hs
        obtain ⟨⟨a1, q1⟩, b1, p1, k1⟩ := Rq.k I d _ _ h1 r1 hs.1 (hz _ (by simp only [PyData.shownAll]; exact List.mem_cons_self))
        obtain ⟨⟨a2, q2⟩, b2, p2, k2⟩ := RqAll.k I ds _ _ h2 r2 hs.2 (fun t ht => hz t (by simp only [PyData.shownAll]; exact List.mem_cons_of_mem _ ht))
        refine ⟨⟨_, ReadsAll.cons q1 q2⟩, b1 ++ b2, (p1.mono (by simp only [PyData.depthAll]; omega)).append (p2.mono (by simp only [PyData.depthAll]; omega)), ?_⟩
        simp only [PyData.depthAll, PyData.shownAll]
        exact ReprAllK.cons ((k1.more (fun b hm => List.mem_append_left _ hm)).level_le (Nat.le_max_left _ _)) (k2.more_le (fun b hm => List.mem_append_right _ hm) (Nat.le_max_right _ _))
end
end
end Wk
namespace Wk
open PySem PySem.Spec PyProof.Rows L2
/-- repr(xs), xs a list of such data -/
def rReprQ (K : PySem.W.Frag) : List V → Hp → VK → Prop := fun xs H Q => ∃ (a : Addr) (vs : List V) (ds : List PyData), xs = [.ref a] ∧ H a = some (.lst vs) ∧ RqAll K H vs ds ∧ PyData.showableAll ds = true ∧ PyData.depthAll ds ≤ 40 ∧
  (listText (PyData.shownAll ds)).length ≤ sizeLine ∧ Q (.str (listText (PyData.shownAll ds))) H
section
variable {X : Cx}
theorem call_reprQ {K : PySem.W.Frag} (hK : X.K = K) (hg : Gd X.A) (hu : X.A.units + 64 < cLine) : CallR X (.builtin "repr") (rReprQ K) := by
  subst hK
  intro pins s σ H xs us Q I r h
  obtain ⟨a, vs, ds, rfl, ha, hall, hs, hd, hz, q⟩ := h
  obtain ⟨u, rfl, e⟩ := vals1 r
  cases (show u = Value.ref a from e)
  obtain ⟨_, its, n, rv, e1⟩ := (show ObjOk X.prog X.w H s.heap a (.lst vs) from I.hok a _ ha)
  obtain ⟨⟨as, ra⟩, bs, hb, hk⟩ := RqAll.k I ds vs its hall rv hs (fun t ht => Nat.le_trans (listText_mem_le ht) hz)
  have hr : Reads s.heap (.ref a) (.list ds) (a :: as) := Reads.list (vs := its.toArray) e1 rfl rfl (by simpa using ra)
  have hna : a ∉ bs := not_mem_of_deeper hr (by simp only [PyData.depth]; omega) hb
  refine call_repr_slot (by omega) ⟨_, e1, rfl⟩ F.slot_list_repr.toG ?_
  cases its with
  | nil =>
    cases ra
    simp only [PyData.shownAll, listText_nil] at q
    exact call_list_repr_empty ⟨_, e1, rfl⟩ e1 rfl ⟨_, _, rfl, .str "[]", H, I.tok _, ⟨_, rfl⟩, q⟩
  | cons y l =>
    refine call_list_reprK e1 rfl rfl hna (by simpa using hk.length_eq) (fun i z w => hk.item i z (by simpa using w)) hg (fun b _ => Clear.nil b) (by show X.A.units + 1 + _ < _; omega) (fun _ _ z => z) (fun h' u tk kp => ?_) hz
    exact ⟨_, _, rfl, .str _, H, I.kept (t' := tk) kp, ⟨_, rfl⟩, q⟩
end
end Wk
/-! The texts of sizes, ties and degrees are short; what the law's data look like. -/
namespace T77
open PySem PySem.Spec PyProof.Rows L2 Wk
/-- the signs of a list of data -/
def cost : List PyData → Nat
  | [] => 0
  | d :: ds => d.shown.length + 2 + cost ds
theorem cost_sum : ∀ ds : List PyData, ((PyData.shownAll ds).map fun t => t.length + 2).sum = cost ds
  | [] => rfl
  | d :: ds => by
    show (((d.shown :: PyData.shownAll ds)).map fun t => t.length + 2).sum = d.shown.length + 2 + cost ds
    rw [List.map_cons, List.sum_cons, cost_sum ds]
theorem cost_append : ∀ ds es : List PyData, cost (ds ++ es) = cost ds + cost es
  | [], es => by show cost es = 0 + cost es; omega
  | d :: ds, es => by show d.shown.length + 2 + cost (ds ++ es) = _; rw [cost_append ds es]; show _ = d.shown.length + 2 + cost ds + cost es; omega
theorem textFrom_le : ∀ (ts : List Str) (k : Nat) (acc : Str), (textFrom k acc ts).length ≤ acc.length + (ts.map fun t => t.length + 2).sum
  | [], _, acc => by simp [textFrom]
  | t :: r, k, acc => by
    have ih := textFrom_le r (k + 1) (acc ++ (if k > 0 then ", " else "" : String) ++ t)
    have e : (((if k > 0 then ", " else "" : String) : Str)).length ≤ 2 := by split <;> decide +kernel
    rw [strLen_append, strLen_append] at ih
    rw [List.map_cons, List.sum_cons]
    refine Nat.le_trans (show (textFrom k acc (t :: r)).length ≤ _ from ih) ?_
    omega
theorem listText_le (ds : List PyData) : (listText (PyData.shownAll ds)).length ≤ 2 + cost ds := by
  have h := textFrom_le (PyData.shownAll ds) 0 "["
  rw [cost_sum] at h
  unfold listText
  rw [strLen_append]
  have e1 : ((("[" : String) : Str)).length = 1 := rfl
  have e2 : ((("]" : String) : Str)).length = 1 := rfl
  omega
theorem piled_eq : ∀ ts : List Str, piled ts = (ts.map fun t => t.length + 2).sum := fun ts => by
  induction ts with
  | nil => rfl
  | cons t ts ih => rw [List.map_cons, List.sum_cons, ← ih]; simp [piled]
theorem tupleText_le (ds : List PyData) : (tupleText (PyData.shownAll ds)).length ≤ 3 + cost ds := by
  unfold tupleText
  rw [strLen_append, strLen_append]
  have e1 : ((("(" : String) : Str)).length = 1 := rfl
  have e2 : (((if (PyData.shownAll ds).length == 1 then ",)" else ")" : String) : Str)).length ≤ 2 := by split <;> decide +kernel
  have e3 : (Str.join ", " (PyData.shownAll ds)).length ≤ cost ds := by
    cases ds with
    | nil => decide +kernel
    | cons d ds =>
      have h := join_length_add (PyData.shownAll (d :: ds)) (by simp [PyData.shownAll])
      rw [piled_eq, cost_sum] at h
      omega
  omega
/-- a number of moderate size -/
abbrev Small (i : Int) : Prop := i.natAbs < 10 ^ 15
theorem small_of {i : Int} (h0 : 0 ≤ i) (h : i ≤ 100000000000000) : Small i := by
  have : (10 : Nat) ^ 15 = 1000000000000000 := by decide
  show i.natAbs < _
  omega
theorem ints_ok : ∀ {l : List Int}, (∀ i ∈ l, Small i) → cost (l.map PyData.int) ≤ 18 * l.length ∧ PyData.showableAll (l.map PyData.int) = true ∧ PyData.depthAll (l.map PyData.int) = 0
  | [], _ => ⟨Nat.le_refl _, by simp [PyData.showableAll], by simp [PyData.depthAll]⟩
  | i :: l, h => by
    obtain ⟨a, b, c⟩ := ints_ok fun j hj => h j (List.mem_cons_of_mem _ hj)
    obtain ⟨d, e⟩ := int_show (h i List.mem_cons_self)
    refine ⟨?_, ?_, ?_⟩
    · show (PyData.int i).shown.length + 2 + cost (l.map PyData.int) ≤ 18 * (l.length + 1)
      omega
    · rw [List.map_cons, PyData.showableAll, e, b]; rfl
    · rw [List.map_cons, PyData.depthAll, c]; simp [PyData.depth]
theorem tup_len {ds : List PyData} : (PyData.tuple ds).shown.length ≤ 3 + cost ds := by
  have := tupleText_le ds
  simpa only [PyData.shown] using this
theorem d3_ok {p : T3} (h1 : Small p.1) (h2 : Small p.2.1) (h3 : Small p.2.2) : (d3 p).shown.length ≤ 57 ∧ (d3 p).showable = true ∧ (d3 p).depth = 1 := by
  have h := ints_ok (l := [p.1, p.2.1, p.2.2]) (by
    intro i hi
    simp only [List.mem_cons, List.not_mem_nil, or_false] at hi
    rcases hi with rfl | rfl | rfl <;> assumption)
  obtain ⟨a, b, c⟩ := h
  have e : d3 p = .tuple ([p.1, p.2.1, p.2.2].map PyData.int) := rfl
  rw [e]
  refine ⟨?_, ?_, ?_⟩
  · have := tup_len (ds := [p.1, p.2.1, p.2.2].map PyData.int)
    have e3 : [p.1, p.2.1, p.2.2].length = 3 := rfl
    omega
  · rw [PyData.showable]; exact b
  · rw [PyData.depth, c]
theorem d3s_ok : ∀ {T : List T3}, (∀ p ∈ T, Small p.1 ∧ Small p.2.1 ∧ Small p.2.2) → cost (T.map d3) ≤ 59 * T.length ∧ PyData.showableAll (T.map d3) = true ∧ PyData.depthAll (T.map d3) ≤ 1
  | [], _ => ⟨Nat.le_refl _, by simp [PyData.showableAll], by simp [PyData.depthAll]⟩
  | p :: T, h => by
    obtain ⟨a, b, c⟩ := d3s_ok fun j hj => h j (List.mem_cons_of_mem _ hj)
    obtain ⟨h1, h2, h3⟩ := h p List.mem_cons_self
    obtain ⟨d, e, f⟩ := d3_ok h1 h2 h3
    refine ⟨?_, ?_, ?_⟩
    · show (d3 p).shown.length + 2 + cost (T.map d3) ≤ 59 * (T.length + 1)
      omega
    · rw [List.map_cons, PyData.showableAll, e, b]; rfl
    · rw [List.map_cons, PyData.depthAll, f]; omega
/-- triples as data -/
theorem Trs.rq {K : PySem.W.Frag} {H : Hp} : ∀ {xs : List V} {ps : List T3}, Trs K H xs ps → RqAll K H xs (ps.map d3)
  | [], [], _ => .nil
  | _ :: _, _ :: _, h => by
    obtain ⟨⟨t, rfl, hS⟩, h2⟩ := h
    exact .cons (.tup hS (.cons (.int _) (.cons (.int _) (.cons (.int _) .nil)))) (Trs.rq h2)
  | [], _ :: _, h => h.elim
  | _ :: _, [], h => h.elim
theorem ints_rq {K : PySem.W.Frag} {H : Hp} : ∀ {l : List Int}, RqAll K H (l.map V.int) (l.map PyData.int)
  | [] => .nil
  | _ :: _ => .cons (.int _) ints_rq
/-- size, ties, total, degrees -/
def told (n : Nat) (T : List T3) (t : Int) (g : List Int) : List PyData := [.int (n : Int), .tuple (T.map d3), .int t, .tuple (g.map PyData.int)]
theorem told_ok {n : Nat} {T : List T3} {t : Int} {g : List Int} (hn : n ≤ 60) (hT : ∀ p ∈ T, Small p.1 ∧ Small p.2.1 ∧ Small p.2.2) (hl : T.length ≤ 4000) (ht : Small t) (hg : ∀ i ∈ g, Small i) (hgl : g.length ≤ 100) :
    PyData.showableAll (told n T t g) = true ∧ PyData.depthAll (told n T t g) ≤ 40 ∧ (listText (PyData.shownAll (told n T t g))).length ≤ sizeLine := by
  obtain ⟨a1, a2⟩ := int_show (i := (n : Int)) (small_of (by omega) (by omega))
  obtain ⟨b1, b2⟩ := int_show ht
  obtain ⟨c1, c2, c3⟩ := d3s_ok hT
  obtain ⟨d1, d2, d3'⟩ := ints_ok hg
  refine ⟨?_, ?_, ?_⟩
  · unfold told
    rw [PyData.showableAll, PyData.showableAll, PyData.showableAll, PyData.showableAll, PyData.showableAll, a2, b2, PyData.showable, c2, PyData.showable, d2]
    rfl
  · unfold told
    rw [PyData.depthAll, PyData.depthAll, PyData.depthAll, PyData.depthAll, PyData.depthAll, PyData.depth, PyData.depth, PyData.depth, PyData.depth, d3']
    omega
  · refine Nat.le_trans (listText_le _) ?_
    unfold told
    show 2 + ((PyData.int (n : Int)).shown.length + 2 + ((PyData.tuple (T.map d3)).shown.length + 2 + ((PyData.int t).shown.length + 2 + ((PyData.tuple (g.map PyData.int)).shown.length + 2 + 0)))) ≤ sizeLine
    have e1 := tup_len (ds := T.map d3)
    have e2 := tup_len (ds := g.map PyData.int)
    rw [sizeLine_eq]
    omega
end T77
/-! A web and the law's sums of its items; degrees that are added up in a list. -/
namespace T77
open PySem PySem.Spec PyProof.Rows L2 Wk
theorem perm_back {α β : Type} {f : α → β} {l m : List β} (h : l.Perm m) : ∀ {S : List α}, m = S.map f → ∃ Z : List α, Z.Perm S ∧ Z.map f = l := by
  induction h with
  | nil => exact fun {S} e => ⟨S, .refl _, e.symm⟩
  | cons x _ ih =>
    intro S e
    cases S with
    | nil => cases e
    | cons s S =>
      rw [List.map_cons] at e
      obtain ⟨e1, e2⟩ := List.cons.inj e
      obtain ⟨Z, h1, h2⟩ := ih e2
      exact ⟨s :: Z, h1.cons s, by rw [List.map_cons, h2, e1]⟩
  | swap x y l =>
    intro S e
    cases S with
    | nil => cases e
    | cons s S =>
      cases S with
      | nil => rw [List.map_cons] at e; cases (List.cons.inj e).2
      | cons t S =>
        rw [List.map_cons, List.map_cons] at e
        obtain ⟨e1, e2⟩ := List.cons.inj e
        obtain ⟨e2, e3⟩ := List.cons.inj e2
        exact ⟨t :: s :: S, List.Perm.swap .., by rw [List.map_cons, List.map_cons, ← e1, ← e2, ← e3]⟩
  | trans _ _ ih1 ih2 =>
    intro S e
    obtain ⟨Z2, h1, h2⟩ := ih2 e
    obtain ⟨Z1, h3, h4⟩ := ih1 h2.symm
    exact ⟨Z1, h3.trans h1, h4⟩
/-- a pair's two numbers -/
def kk (p : T3) : List Int := [p.1, p.2.1]
theorem le2_of_code2 {B : Int} {p q : T3} (hp : TS.Bd B (kk p)) (hq : TS.Bd B (kk q)) (h : TS.code B (kk p) ≤ TS.code B (kk q)) : lt2 p q ∨ key p q := by
  unfold kk at *
  by_cases h1 : q.1 < p.1
  · have := TS.code_lt (B := B) (r := [q.2.1]) (q := [p.2.1]) rfl hq.tail hp.tail h1
    omega
  · by_cases h2 : p.1 = q.1
    · by_cases h3 : q.2.1 < p.2.1
      · have a := TS.code_lt (B := B) (r := []) (q := []) rfl hq.tail.tail hp.tail.tail h3
        have b := (TS.code_same (B := B) (d := p.1) (r := [q.2.1]) (q := [p.2.1]) rfl).mpr a
        rw [h2] at b h
        omega
      · unfold lt2 key; omega
    · unfold lt2 key; omega
/-- the pairs in the order of sorted -/
theorem sorted_back {S : List T3} {ks : List (List Int)} (hB : ∀ p ∈ S, TS.Bd 61 (kk p)) (hp : ks.Perm (S.map kk)) (ho : ks.Pairwise fun n m => TS.code 61 n ≤ TS.code 61 m) :
    ∃ Z : List T3, Z.Perm S ∧ Z.map kk = ks ∧ Z.Pairwise fun p q => lt2 p q ∨ key p q := by
  obtain ⟨Z, h1, h2⟩ := perm_back hp rfl
  refine ⟨Z, h1, h2, ?_⟩
  rw [← h2, List.pairwise_map] at ho
  exact ho.imp_of_mem fun {p q} hp hq h => le2_of_code2 (hB p (h1.mem_iff.mp hp)) (hB q (h1.mem_iff.mp hq)) h
theorem dif_amt : ∀ {Z : List T3}, Dif Z → ∀ {p : T3}, p ∈ Z → amt Z p.1 p.2.1 = p.2.2
  | q :: Z, hd, p, hp => by
    obtain ⟨h1, h2⟩ := List.pairwise_cons.mp hd
    rw [amt_cons]
    rcases List.mem_cons.mp hp with rfl | hp
    · rw [if_pos ⟨rfl, rfl⟩, amt_zero fun r hr k => h1 r hr ⟨k.1.symm, k.2.symm⟩, Int.add_zero]
    · rw [if_neg (show ¬ (q.1 = p.1 ∧ q.2.1 = p.2.1) from fun k => h1 p hp k), dif_amt h2 hp, Int.zero_add]
theorem Dif.perm {Z S : List T3} (h : Dif S) (p : Z.Perm S) : Dif Z := (p.pairwise_iff (R := fun p q => ¬ key p q) fun {p q} k z => k ⟨z.1.symm, z.2.symm⟩).mpr h
/-- what the dict holds at a pair of its own -/
theorem valV_mem {S : List T3} (h : Dif S) {p : T3} (hp : p ∈ S) : valV (S.map ent) [.inl p.1, .inl p.2.1] = some (.int p.2.2) := by
  rcases valV_ent (u := p.1) (v := p.2.1) h with ⟨_, b⟩ | ⟨a, _⟩
  · exact absurd ⟨rfl, rfl⟩ (b p hp)
  · rw [a, dif_amt h hp]
theorem inc_pos {l : List T3} {u : Int} (h : ∀ p ∈ l, 0 ≤ p.2.2) : inc (l.filter fun p => decide (0 < p.2.2)) u = inc l u := by
  induction l with
  | nil => rfl
  | cons p l ih =>
    have ih := ih fun q hq => h q (List.mem_cons_of_mem _ hq)
    have h0 := h p List.mem_cons_self
    by_cases hp : 0 < p.2.2
    · rw [List.filter_cons_of_pos (by simpa using hp), inc_cons, inc_cons, ih]
    · rw [List.filter_cons_of_neg (by simpa using hp), inc_cons, ih]
      have : p.2.2 = 0 := by omega
      rw [this]
      split <;> split <;> omega
theorem total_cons {p : T3} {l : List T3} : total (p :: l) = p.2.2 + total l := by unfold total; rw [List.map_cons, List.sum_cons]
theorem total_pos {l : List T3} (h : ∀ p ∈ l, 0 ≤ p.2.2) : total (l.filter fun p => decide (0 < p.2.2)) = total l := by
  induction l with
  | nil => rfl
  | cons p l ih =>
    have ih := ih fun q hq => h q (List.mem_cons_of_mem _ hq)
    have h0 := h p List.mem_cons_self
    by_cases hp : 0 < p.2.2
    · rw [List.filter_cons_of_pos (by simpa using hp), total_cons, total_cons, ih]
    · rw [List.filter_cons_of_neg (by simpa using hp), total_cons, ih]
      omega
theorem total_bound : ∀ {l : List T3}, (∀ p ∈ l, 0 ≤ p.2.2 ∧ p.2.2 ≤ 1000000000) → 0 ≤ total l ∧ total l ≤ 1000000000 * (l.length : Int)
  | [], _ => ⟨Int.le_refl _, Int.le_refl _⟩
  | p :: l, h => by
    obtain ⟨a, b⟩ := total_bound fun q hq => h q (List.mem_cons_of_mem _ hq)
    have := h p List.mem_cons_self
    rw [total_cons, List.length_cons]
    omega
theorem inc_bound : ∀ {l : List T3} {u : Int}, (∀ p ∈ l, 0 ≤ p.2.2 ∧ p.2.2 ≤ 1000000000) → 0 ≤ inc l u ∧ inc l u ≤ 2000000000 * (l.length : Int)
  | [], _, _ => ⟨Int.le_refl _, Int.le_refl _⟩
  | p :: l, u, h => by
    obtain ⟨a, b⟩ := inc_bound (u := u) fun q hq => h q (List.mem_cons_of_mem _ hq)
    have := h p List.mem_cons_self
    rw [inc_cons, List.length_cons]
    split <;> split <;> omega
/-- a web at w, and at d the law's sums of the items it was made of -/
structure WD (K : PySem.W.Frag) (C : Addr) (H : Hp) (w : Addr) (n : Nat) (T : List T3) (d : Addr) (S l : List T3) : Prop where
  web : WebAt K C H w n T
  dic : H d = some (.dT (S.map ent))
  sums : SumsOf l S
  norm : ∀ p ∈ l, 0 ≤ p.1 ∧ p.1 < p.2.1 ∧ p.2.1 < (n : Int) ∧ 0 ≤ p.2.2
  ties : TiesOf (n : Int) (amt l) T
  len : l.length < 4000
  big : ∀ u v, amt l u v ≤ 1000000000
  n60 : n ≤ 60
theorem WD.same {K : PySem.W.Frag} {C : Addr} {H H' : Hp} {w : Addr} {n : Nat} {T : List T3} {d : Addr} {S l : List T3} (h : WD K C H w n T d S l) (s : Same H H') : WD K C H' w n T d S l :=
  ⟨h.web.same s, s _ _ h.dic, h.sums, h.norm, h.ties, h.len, h.big, h.n60⟩
theorem TiesOf.num {T l : List T3} {n : Int} (h : TiesOf n (amt l) T) (hb : ∀ u v, amt l u v ≤ 1000000000) {p : T3} (hp : p ∈ T) : 0 ≤ p.2.2 ∧ p.2.2 ≤ 1000000000 := by
  have a := amt_mem h.asc hp
  have b := h.mem p hp
  have c := hb p.1 p.2.1
  rw [h.am] at a
  omega
section
variable {l S T Z : List T3} {n : Nat}
theorem SumsOf.bd (h : SumsOf l S) (hl : ∀ p ∈ l, 0 ≤ p.1 ∧ p.1 < p.2.1 ∧ p.2.1 < (n : Int) ∧ 0 ≤ p.2.2) (hn : n ≤ 60) : ∀ p ∈ S, 0 ≤ p.1 ∧ p.1 < p.2.1 ∧ p.2.1 < (n : Int) ∧ TS.Bd 61 (kk p) := fun p hp => by
  obtain ⟨q, hq, k⟩ := h.mem p hp
  have := hl q hq
  unfold key at k
  refine ⟨by omega, by omega, by omega, fun m hm => ?_⟩
  unfold kk at hm
  simp only [List.mem_cons, List.not_mem_nil, or_false] at hm
  rcases hm with rfl | rfl <;> omega
theorem SumsOf.pos (h : SumsOf l S) (hl : ∀ p ∈ l, 0 ≤ p.1 ∧ p.1 < p.2.1 ∧ p.2.1 < (n : Int) ∧ 0 ≤ p.2.2) : ∀ p ∈ S, p.2.2 = amt l p.1 p.2.1 ∧ 0 ≤ p.2.2 := fun p hp => by
  have a := dif_amt h.dif hp
  rw [h.am] at a
  have := amt_nonneg (u := p.1) (v := p.2.1) fun q hq => (hl q hq).2.2.2
  omega
theorem SumsOf.eqT (h : SumsOf l S) (hl : ∀ p ∈ l, 0 ≤ p.1 ∧ p.1 < p.2.1 ∧ p.2.1 < (n : Int) ∧ 0 ≤ p.2.2) (ht : TiesOf (n : Int) (amt l) T) (hp : Z.Perm S) (ho : Z.Pairwise fun p q => lt2 p q ∨ key p q) :
    (Z.filter fun p => decide (0 < p.2.2)) = T := (h.ties hl hp ho).eq ht fun _ _ => rfl
end
/-- a list of degrees, one place raised -/
theorem range_set {n u : Nat} {f : Nat → Int} {m : Int} (hu : u < n) : (((List.range n).map f).map V.int).set u (.int (f u + m)) = ((List.range n).map fun x => f x + if x = u then m else 0).map V.int := by
  refine List.ext_getElem? fun i => ?_
  rw [List.getElem?_set, List.length_map, List.length_map, List.length_range, List.getElem?_map, List.getElem?_map, List.getElem?_map, List.getElem?_map]
  by_cases e : u = i
  · subst e
    rw [if_pos rfl, if_pos hu, List.getElem?_range hu]
    show some _ = some (V.int (f u + if u = u then m else 0))
    rw [if_pos rfl]
  · rw [if_neg e]
    by_cases hi : i < n
    · rw [List.getElem?_range hi]
      show some (V.int (f i)) = some (V.int (f i + if i = u then m else 0))
      rw [if_neg (Ne.symm e), Int.add_zero]
    · rw [List.getElem?_eq_none (by rw [List.length_range]; omega)]
      rfl
theorem range_at {n u : Nat} {f : Nat → Int} (hu : u < n) : (((List.range n).map f).map V.int)[u]? = some (.int (f u)) := by
  rw [List.getElem?_map, List.getElem?_map, List.getElem?_range hu]
  rfl
theorem range_len {n : Nat} {f : Nat → Int} : (((List.range n).map f).map V.int).length = n := by rw [List.length_map, List.length_map, List.length_range]
theorem rep0 (n : Nat) : (List.replicate ((n : Int)).toNat [V.int 0]).flatten = ((List.range n).map fun _ => (0 : Int)).map V.int := by
  rw [Int.toNat_natCast]
  induction n with
  | zero => rfl
  | succ n ih =>
    rw [List.replicate_succ', List.flatten_append, ih, List.range_succ, List.map_append, List.map_append]
    rfl
/-- degrees behind one more bundle -/
theorem inc_step {n : Nat} {T : List T3} {p : T3} (h0 : 0 ≤ p.1) (h1 : 0 ≤ p.2.1) : ((List.range n).map fun (x : Nat) => (inc T (x : Int) + if x = p.1.toNat then p.2.2 else 0) + if x = p.2.1.toNat then p.2.2 else 0) = (List.range n).map fun (x : Nat) => inc (T ++ [p]) (x : Int) := by
  refine List.map_congr_left fun x _ => ?_
  rw [inc_append, inc_cons]
  have e : inc [] (x : Int) = 0 := rfl
  rw [e]
  have c1 : (x = p.1.toNat) ↔ (p.1 = (x : Int)) := by omega
  have c2 : (x = p.2.1.toNat) ↔ (p.2.1 = (x : Int)) := by omega
  by_cases a : p.1 = (x : Int)
  · rw [if_pos a, if_pos (c1.mpr a)]
    by_cases b : p.2.1 = (x : Int)
    · rw [if_pos b, if_pos (c2.mpr b)]; omega
    · rw [if_neg b, if_neg fun z => b (c2.mp z)]; omega
  · rw [if_neg a, if_neg fun z => a (c1.mp z)]
    by_cases b : p.2.1 = (x : Int)
    · rw [if_pos b, if_pos (c2.mpr b)]; omega
    · rw [if_neg b, if_neg fun z => b (c2.mp z)]; omega
theorem degs_inc {T l : List T3} {n : Nat} (h : TiesOf (n : Int) (amt l) T) : degs T n = (List.range n).map fun (x : Nat) => inc T (x : Int) :=
  List.map_congr_left fun x _ => deg_inc h.asc h.mem
end T77
/-! repr(bool); t[::-1] of a tuple. -/
namespace Wk
open PySem PySem.Spec PyProof.Rows L2 HT
theorem call_reprBl {X : Cx} : CallR X (.builtin "repr") (fun xs H Q => ∃ b : Bool, xs = [.bl b] ∧ Q (.str (if b then "True" else "False")) H) := by
  intro pins s σ H xs us Q I r h
  obtain ⟨b, rfl, q⟩ := h
  obtain ⟨u, rfl, e⟩ := vals1 r
  cases (show u = Value.bool b from e)
  exact PySem.P.repr_of_bool ⟨.str _, H, I.tok _, ⟨_, rfl⟩, q⟩
theorem rev_pick (xs : Array Value) : ((List.range xs.size).filterMap fun (k : Nat) => xs[((xs.size : Int) - 1 + (k : Int) * (-1)).toNat]?) = xs.toList.reverse := by
  have h := PySem.W.krv_all xs
  have e : ((List.range xs.size).map fun k => xs.size - 1 - k).filterMap (xs[·]?) = xs.toList.reverse := by
    rw [PySem.W.krv_range, List.filterMap_reverse, h]
  rw [List.filterMap_map] at e
  rw [← e]
  have hh : ∀ l : List Nat, (∀ k ∈ l, k < xs.size) → l.filterMap (fun (k : Nat) => xs[((xs.size : Int) - 1 + (k : Int) * (-1)).toNat]?) = l.filterMap ((xs[·]?) ∘ fun k => xs.size - 1 - k) := by
    intro l
    induction l with
    | nil => intro _; rfl
    | cons k l ih =>
      intro hl
      have hk := hl k List.mem_cons_self
      rw [List.filterMap_cons, List.filterMap_cons, ih fun j hj => hl j (List.mem_cons_of_mem _ hj)]
      have : ((xs.size : Int) - 1 + (k : Int) * (-1)).toNat = xs.size - 1 - k := by omega
      have e2 : xs[((xs.size : Int) - 1 + (k : Int) * (-1)).toNat]? = ((xs[·]?) ∘ fun k => xs.size - 1 - k) k := by rw [this]; rfl
      rw [e2]
  exact hh _ fun k hk => List.mem_range.mp hk
section
variable {prog : Program} {w : World} {A : Around} {E : Value → Shared → Prop} {s : Shared}
theorem applied_rev {sl : Addr} {vs : Value} {n : Nat} {Q : Int × Int × Nat → Shared → Prop} (hs : s.heap.IsSliceOf sl .none .none vs) (ps : IsPart vs (some (-1))) (h : Q ((n : Int) - 1, -1, n) s) :
    wpAny (model prog w) A (Builtin.Slice.sliceApplied (.ref sl) (pure (n : Int))) Q E s := by
  obtain ⟨os, hos, hcs, hds⟩ := id hs
  unfold Builtin.Slice.sliceApplied Builtin.Slice.sliceFields
  refine wpAny_bind (wpAny_bind (wpAny_field hos hds (x := .none) rfl (wpAny_bind (wpAny_field hos hds (x := .none) rfl (wpAny_bind (wpAny_field hos hds (x := vs) rfl (wpAny_pure ?_)))))))
  refine wpAny_bind (slicePart_ ps ?_)
  show wpAny _ _ (if ((-1 : Int) == 0) = true then _ else _) _ _ s
  rw [if_neg (by decide)]
  refine wpAny_bind (slicePart_ .none (wpAny_bind (slicePart_ .none (wpAny_bind (wpAny_pure ?_)))))
  have ad : Builtin.Slice.sliceAdjust none none (-1) (n : Int) = ((n : Int) - 1, -1) := by
    unfold Builtin.Slice.sliceAdjust
    first | rfl | simp
  have pl : Builtin.Slice.slicePlaces ((n : Int) - 1) (-1) (-1) = n := by
    unfold Builtin.Slice.slicePlaces
    have h1 : ¬ ((-1 : Int) > 0) := by decide
    simp only [h1, if_false]
    by_cases h0 : n = 0
    · subst h0; decide
    · rw [show (- -1 : Int) = 1 by decide]
      simp only [Int.ediv_one]
      split <;> omega
  show wpAny _ _ (match Builtin.Slice.sliceAdjust none none (-1) (n : Int) with | (a, b) => pure (a, (-1 : Int), Builtin.Slice.slicePlaces a b (-1))) _ _ s
  rw [ad]
  show wpAny _ _ (pure ((n : Int) - 1, (-1 : Int), Builtin.Slice.slicePlaces ((n : Int) - 1) (-1) (-1))) _ _ s
  rw [pl]
  exact wpAny_pure h
theorem getItem_rev {t sl : Addr} {items : Array Value} {vs : Value} {Q : Value → Shared → Prop} (ht : IsTup s.heap t items) (hs : s.heap.IsSliceOf sl .none .none vs) (ps : IsPart vs (some (-1)))
    (h : Q (.ref s.heap.objs.size) { s with heap := s.heap.push { cls := .type "tuple", data := .seq items.toList.reverse.toArray } }) (hz : items.size ≤ sizeLine) : wpAny (model prog w) A (getItem (.ref t) (.ref sl)) Q E s := by
  have hk : sizeOk (.seq items.toList.reverse.toArray) := by
    show items.toList.reverse.toArray.size ≤ sizeLine
    rw [List.size_toArray, List.length_reverse, Array.length_toList]; exact hz
  obtain ⟨os, hos, hcs, hds⟩ := id hs
  have hTs : s.TypeIs (.ref sl) "slice" := ⟨os, hos, hcs⟩
  unfold getItem
  try with_reducible refine wpAny_holding ?_
  first | refine wpAny_bind (wpAny_pure ?_) | skip
  refine wpAny_bind (wpAny_sequenceKey ht.typeIs (by decide) ?_)
  refine wpAny_bind (wpAny_callSpecial?_slot (name := Str.ofString "__getitem__") ht.typeIs PyProof.Rows.slot_tuple_getitem (wpAny_call_entry PyProof.Rows.slot_tuple_getitem ht.typeIs entry_tuple_getitem ?_ (args_tuple_getitem _ _)))
  show wpAny _ _ (Builtin.Tuple.tupleItemsOf (.ref t) >>= _) _ _ s
  refine wpAny_bind (tupleItemsOf_ ht ?_)
  refine wpAny_bind (wpAny_typeOf hTs ?_)
  rw [if_pos (by decide)]
  refine wpAny_bind (applied_rev hs ps ?_)
  have no : ¬ ((((items.size : Int) - 1) == 0 && (-1 : Int) == 1 && items.size == items.size) = true) := by simp
  show wpAny _ _ (if (((items.size : Int) - 1) == 0 && (-1 : Int) == 1 && items.size == items.size) = true then _ else _) _ _ s
  rw [if_neg no, rev_pick]
  first
    | exact wpAny_bind (m := Builtin.Tuple.tupleExact _) (wpAny_newObj_type (wpAny_pure ⟨_, rfl, wpAny_pure h⟩) hk)
    | exact wpAny_bind (m := Builtin.Tuple.tupleExact _) (wpAny_newObj_type (wpAny_bind (wpAny_pure (wpAny_pure ⟨_, rfl, wpAny_pure h⟩))) hk)
    | exact wpAny_bind (wpAny_bind (m := Builtin.Tuple.tupleExact _) (wpAny_newObj_type (wpAny_pure (wpAny_pure ⟨_, rfl, wpAny_pure h⟩)) hk))
    | exact wpAny_bind (wpAny_bind (m := Builtin.Tuple.tupleExact _) (wpAny_newObj_type (wpAny_pure ⟨_, rfl, wpAny_pure h⟩) hk))
end
/-- t[::-1] -/
def tRevT (K : PySem.W.Frag) (te : TE) : TE := fun σ H Q => te σ H fun x H1 => ∃ a xs, x = .ref a ∧ SqT K H1 a xs ∧ ∀ p, H1 p = none → Q (.ref p) (upd H1 p (.tup xs.reverse))
theorem pe_revT {X : Cx} {e : Expr} {te : TE} {k : Nat} {p1 p2 p3 pos : Pos} (he : PE X e te) : PE X (.Subscript e (.Slice none none (some (.UnaryOp .USub (.Constant (.int 1) k p1) p2)) p3) pos) (tRevT X.K te) := by
  refine ⟨fun pins s σ H Q I h => Subscript_ (thn (he.run pins s σ H _ I h) fun v s1 ⟨x, H1, I1, r1, q1⟩ => ?_)⟩
  obtain ⟨a, xs, ex, hx, q⟩ := q1
  subst ex
  cases r1
  have st : PO X (some (.UnaryOp .USub (.Constant (.int 1) k p1) p2)) (tPart (tUn (rU fun i => .int (-i)) (tC (.int 1)))) := po_some (pe_un un_neg pe_int)
  refine wpAny_Slice (thn (po_none.run pins s1 σ H1 (fun o H2 => o = none ∧ H2 = H1) I1 ⟨rfl, rfl⟩) fun vl s2 ⟨l, H2, I2, pl, el, e2⟩ => ?_)
  subst el e2
  cases pl
  refine thn (po_none.run pins s2 σ H2 (fun o H3 => o = none ∧ H3 = H2) I2 ⟨rfl, rfl⟩) fun vu s3 ⟨u, H3, I3, pu, eu, e3⟩ => ?_
  subst eu e3
  cases pu
  refine thn (st.run pins s3 σ H3 (fun o H4 => o = some (-1) ∧ H4 = H3) I3 ⟨1, rfl, -1, rfl, rfl, rfl⟩) fun vs s4 ⟨o, H4, I4, ps, eo, e4⟩ => ?_
  subst eo e4
  have I5 : Inv X pins σ H4 { s4 with heap := s4.heap.push { cls := .type "slice", data := .fields #[.none, .none, vs] } } := I4.kept (t' := s4.toks) fun b ob q => Heap.get?_push_of_some _ q
  obtain ⟨its, r, ht, hz⟩ := I5.tuple hx
  have hlen := r.length
  refine tail_any (ops := [.ref a, .ref s4.heap.objs.size]) ht.typeIs (PyProof.Rows.slot_tuple_getitem.lookup) ?_ (by with_unfolding_all rfl)
  refine getItem_rev ht (Heap.IsSliceOf.new _ .none .none vs) ps ?_ (by rw [List.size_toArray]; omega)
  refine ⟨.ref _, _, I5.laid (t' := s4.toks) (o := .tup xs.reverse) (fun b ob q => Heap.get?_push_of_some _ q) (Nat.le_refl _) ?_, rfl, q _ (I5.hok.fresh (Nat.le_refl _))⟩
  refine ⟨by rw [List.length_reverse]; exact hz, its.reverse, r.reverse, _, Heap.get?_push_size _ rfl, rfl, 0, ?_⟩
  simp
end Wk
/-! What stays when the bag changes; what is and what is not in a web. -/
namespace T77
open PySem PySem.Spec PyProof.Rows L2 Wk
section
variable {K : PySem.W.Frag} {C : Addr} {H H' : Hp} {w b : Addr} {n : Nat} {T : List T3}
theorem WebAt.butL {xb : List V} (hb : H b = some (.lst xb)) (h : WebAt K C H w n T) (s : But b H H') : WebAt K C H' w n T := by
  obtain ⟨dx, t, ys, d, g, h1, h2, h3, h4, h5⟩ := h.ex
  have ne : ∀ {a : Addr} {o : HO}, H a = some o → (∀ xs, o ≠ .lst xs) → a ≠ b := fun {a o} ha ho e => by
    subst e
    rw [hb] at ha
    exact ho xb (by injection ha with ha; exact ha.symm)
  exact ⟨dx, t, ys, d, g, s _ _ (ne h1 fun _ e => by cases e) h1, s _ _ (ne h2 fun _ e => by cases e) h2, Trs.but hb s h3, s _ _ (ne h4 fun _ e => by cases e) h4, s _ _ (ne h5 fun _ e => by cases e) h5⟩
theorem WD.butL {xb : List V} {d : Addr} {S l : List T3} (hb : H b = some (.lst xb)) (h : WD K C H w n T d S l) (s : But b H H') : WD K C H' w n T d S l :=
  ⟨h.web.butL hb s, s _ _ (fun e => by subst e; have := h.dic; rw [hb] at this; cases this) h.dic, h.sums, h.norm, h.ties, h.len, h.big, h.n60⟩
theorem kit_no {t : String} (h : PySem.W.kitOne K (.type t) (.type "tuple") = some false) (x : V) (r : Int) (ty : TyX K H x (.type t)) : PairIs K H x r T false := ⟨_, false, ty, .inl ⟨h, rfl⟩, fun _ => rfl, fun e => by cases e⟩
theorem pi_non (r : Int) : PairIs K H .non r T false := kit_no (kit_ty (r := false) (by decide +kernel)) _ _ (.base .non)
theorem pi_int (i r : Int) : PairIs K H (.int i) r T false := kit_no (kit_ty (r := false) (by decide +kernel)) _ _ (.base (.int i))
theorem pi_str (x : Str) (r : Int) : PairIs K H (.str x) r T false := kit_no (kit_ty (r := false) (by decide +kernel)) _ _ (.base (.str x))
theorem pi_lst {a : Addr} {xs : List V} (h : H a = some (.lst xs)) (r : Int) : PairIs K H (.ref a) r T false := kit_no (kit_ty (r := false) (by decide +kernel)) _ _ (.base (.lst h))
theorem pi_len {a : Addr} {xs : List V} (h : SqT K H a xs) (hl : xs.length ≠ 2) (r : Int) : PairIs K H (.ref a) r T false :=
  ⟨_, false, Wk.SqT.tyX h, .inr ⟨kit_tup, a, xs, rfl, h, .inl ⟨hl, rfl⟩⟩, fun _ => rfl, fun e => by cases e⟩
theorem pi_bad {a : Addr} {y z : V} {ty tz : Value} {r : Int} (h : SqT K H a [y, z]) (ay : AnyV K H y ty) (az : AnyV K H z tz) (hp : pairB y z r = false) : PairIs K H (.ref a) r T false :=
  ⟨_, false, Wk.SqT.tyX h, .inr ⟨kit_tup, a, _, rfl, h, .inr ⟨y, z, _, _, rfl, ay, az, hp.symm⟩⟩, fun _ => rfl, fun e => by cases e⟩
theorem pairB_of {u v r : Int} (h0 : 0 ≤ u) (h1 : u < r) (h2 : 0 ≤ v) (h3 : v < r) (h4 : u ≠ v) : pairB (.int u) (.int v) r = true := by
  simp only [pairB, fromToB, Bool.and_eq_true, decide_eq_true_eq, Bool.not_eq_true', decide_eq_false_iff_not]
  exact ⟨⟨h0, by omega⟩, ⟨h2, by omega⟩, fun e => h4 (by injection e)⟩
theorem pi_ok {a : Addr} {u v r : Int} (h : SqT K H a [.int u, .int v]) (h0 : 0 ≤ u) (h1 : u < r) (h2 : 0 ≤ v) (h3 : v < r) (h4 : u ≠ v) : PairIs K H (.ref a) r T (look T u v).isSome :=
  ⟨_, true, Wk.SqT.tyX h, .inr ⟨kit_tup, a, _, rfl, h, .inr ⟨_, _, _, _, rfl, any_int u, any_int v, (pairB_of h0 h1 h2 h3 h4).symm⟩⟩, fun e => (by cases e), fun _ => ⟨a, u, v, rfl, h, rfl⟩⟩
end
/-- the class's own methods, as the text has them -/
structure DunW (P : Program) (w : World) (K : PySem.W.Frag) (mg : Str → Option Value) (base : Heap) (C : Addr) (k : Nat) (fg fc fe : Addr) (dg dc de : FuncData) : Prop where
  G : FnOk P w K mg base CX0 k fg dg ["self", "at"] (spGet K C)
  bG : Binds K dg ["self", "at"] []
  sG : PySem.W.findIn K (.ref C) "__getitem__" = some (some (.ref fg))
  nG : PySem.W.fnIn K fg = true
  iG : PySem.W.isFn K (.ref fg) = true
  N : FnOk P w K mg base CX0 k fc dc ["self", "x"] (spCont K C)
  bN : Binds K dc ["self", "x"] []
  sN : PySem.W.findIn K (.ref C) "__contains__" = some (some (.ref fc))
  iN : PySem.W.isFn K (.ref fc) = true
  Q : FnOk P w K mg base CX0 k fe de ["self", "other"] (spEqW K C)
  bQ : Binds K de ["self", "other"] []
  sQ : PySem.W.findIn K (.ref C) "__eq__" = some (some (.ref fe))
  iQ : PySem.W.isFn K (.ref fe) = true
  ne : PySem.W.findIn K (.ref C) "__ne__" = some (some (.builtin "object.__ne__"))
  ob : PySem.W.mroIn K C (.type "object") = some true
/-- three answers as data -/
theorem ans_ok {i : Int} {x y : Bool} (h : Small i) : PyData.showableAll [.int i, .bool x, .bool y] = true ∧ PyData.depthAll [.int i, .bool x, .bool y] ≤ 40 ∧ (listText (PyData.shownAll [.int i, .bool x, .bool y])).length ≤ sizeLine := by
  obtain ⟨a, b⟩ := int_show h
  have bl : ∀ z : Bool, (PyData.bool z).shown.length ≤ 5 := fun z => by cases z <;> decide +kernel
  have b1 := bl x
  have b2 := bl y
  refine ⟨by rw [PyData.showableAll, b]; rfl, by rw [PyData.depthAll, PyData.depthAll, PyData.depthAll, PyData.depthAll, PyData.depth, PyData.depth, PyData.depth]; decide, ?_⟩
  refine Nat.le_trans (listText_le _) ?_
  show 2 + ((PyData.int i).shown.length + 2 + ((PyData.bool x).shown.length + 2 + ((PyData.bool y).shown.length + 2 + 0))) ≤ sizeLine
  rw [sizeLine_eq]
  omega
theorem ans3_ok {x y z : Bool} : PyData.showableAll [.bool x, .bool y, .bool z] = true ∧ PyData.depthAll [.bool x, .bool y, .bool z] ≤ 40 ∧ (listText (PyData.shownAll [.bool x, .bool y, .bool z])).length ≤ sizeLine := by
  refine ⟨rfl, by rw [PyData.depthAll, PyData.depthAll, PyData.depthAll, PyData.depthAll, PyData.depth, PyData.depth, PyData.depth]; decide, ?_⟩
  refine Nat.le_trans (listText_le _) ?_
  have bl : ∀ z : Bool, (PyData.bool z).shown.length ≤ 5 := fun z => by cases z <;> decide +kernel
  have b1 := bl x
  have b2 := bl y
  have b3 := bl z
  show 2 + ((PyData.bool x).shown.length + 2 + ((PyData.bool y).shown.length + 2 + ((PyData.bool z).shown.length + 2 + 0))) ≤ sizeLine
  rw [sizeLine_eq]
  omega
theorem ans2_ok {x y : Bool} : PyData.showableAll [.bool x, .bool y] = true ∧ PyData.depthAll [.bool x, .bool y] ≤ 40 ∧ (listText (PyData.shownAll [.bool x, .bool y])).length ≤ sizeLine := by
  refine ⟨rfl, by rw [PyData.depthAll, PyData.depthAll, PyData.depthAll, PyData.depth, PyData.depth]; decide, ?_⟩
  refine Nat.le_trans (listText_le _) ?_
  have bl : ∀ z : Bool, (PyData.bool z).shown.length ≤ 5 := fun z => by cases z <;> decide +kernel
  have b1 := bl x
  have b2 := bl y
  show 2 + ((PyData.bool x).shown.length + 2 + ((PyData.bool y).shown.length + 2 + 0)) ≤ sizeLine
  rw [sizeLine_eq]
  omega
/-- total and degrees as data -/
theorem td_ok {t : Int} {g : List Int} (ht : Small t) (hg : ∀ i ∈ g, Small i) (hgl : g.length ≤ 100) :
    PyData.showableAll [.int t, .tuple (g.map PyData.int)] = true ∧ PyData.depthAll [.int t, .tuple (g.map PyData.int)] ≤ 40 ∧ (listText (PyData.shownAll [.int t, .tuple (g.map PyData.int)])).length ≤ sizeLine := by
  obtain ⟨b1, b2⟩ := int_show ht
  obtain ⟨d1, d2, d3'⟩ := ints_ok hg
  refine ⟨by rw [PyData.showableAll, PyData.showableAll, PyData.showableAll, b2, PyData.showable, d2]; rfl, by rw [PyData.depthAll, PyData.depthAll, PyData.depthAll, PyData.depth, PyData.depth, d3']; decide, ?_⟩
  refine Nat.le_trans (listText_le _) ?_
  show 2 + ((PyData.int t).shown.length + 2 + ((PyData.tuple (g.map PyData.int)).shown.length + 2 + 0)) ≤ sizeLine
  have e2 := tup_len (ds := g.map PyData.int)
  rw [sizeLine_eq]
  omega
end T77
/-! repr of a list whose items are data (dicts with text keys among them), no repr being under way. -/
namespace Wk
open PySem PySem.Spec PyProof.Rows L2
mutual
/-- the value is such data, all its objects tracked -/
inductive Rp (H : Hp) : V → PyData → Prop
  | non : Rp H .non .none
  | bl (b : Bool) : Rp H (.bl b) (.bool b)
  | int (i : Int) : Rp H (.int i) (.int i)
  | str (x : Str) : Rp H (.str x) (.str x)
  | lst {a : Addr} {vs : List V} {ds : List PyData} : H a = some (.lst vs) → RpAll H vs ds → Rp H (.ref a) (.list ds)
  | tup {a : Addr} {vs : List V} {ds : List PyData} : H a = some (.tup vs) → RpAll H vs ds → Rp H (.ref a) (.tuple ds)
  | dic {a : Addr} {es : List (Key × V)} {ps : List (PyData × PyData)} : H a = some (.dK es) → RpKv H es ps → Rp H (.ref a) (.dict ps)
inductive RpAll (H : Hp) : List V → List PyData → Prop
  | nil : RpAll H [] []
  | cons {v : V} {vs : List V} {d : PyData} {ds : List PyData} : Rp H v d → RpAll H vs ds → RpAll H (v :: vs) (d :: ds)
inductive RpKv (H : Hp) : List (Key × V) → List (PyData × PyData) → Prop
  | nil : RpKv H [] []
  | cons {x : Str} {v : V} {es : List (Key × V)} {d : PyData} {ps : List (PyData × PyData)} : Rp H v d → RpKv H es ps → RpKv H ((Sum.inr x, v) :: es) ((.str x, d) :: ps)
end
theorem entries_more {P : Program} {w : World} {as as' : List Addr} {h : Heap} {d d' : Nat} (hsub : ∀ b ∈ as, b ∈ as') (hd : d ≤ d') : ∀ {l : List DictEntry} {ts : List Str}, ReprEntriesK P w as h d l ts → ReprEntriesK P w as' h d' l ts
  | _, _, .nil => .nil
  | _, _, .cons a b c => .cons ((a.more hsub).level_le hd) ((b.more hsub).level_le hd) (entries_more hsub hd c)
section
variable {X : Cx} {pins : List (Addr × Obj)} {σ : L2.St} {H : Hp} {s : Shared}
mutual
theorem Rp.k (I : Inv X pins σ H s) : ∀ (d : PyData) (v : V) (u : Value), Rp H v d → RelV v u → d.showable = true → d.shown.length ≤ sizeLine →
    (∃ as, Reads s.heap u d as) ∧ ∃ bs, ReadAtMost s.heap d.depth bs ∧ ReprK X.prog X.w bs s.heap d.depth u d.shown
  | .none, v, u, h, r, _, _ => by
    cases h; cases r
    refine ⟨⟨_, Reads.none⟩, [], (fun _ z => nomatch z), ?_⟩
    simp only [PyData.shown]; exact ReprK.of_is ReprIs.none _ _ _
  | .bool b, v, u, h, r, _, _ => by
    cases h; cases r
    refine ⟨⟨_, Reads.bool b⟩, [], (fun _ z => nomatch z), ?_⟩
    simp only [PyData.shown]; exact ReprK.of_is (ReprIs.bool b) _ _ _
  | .int i, v, u, h, r, hs, _ => by
    cases h
    obtain ⟨t, rfl⟩ := r
    refine ⟨⟨_, Reads.int i t⟩, [], (fun _ z => nomatch z), ?_⟩
    simp only [PyData.shown]; exact ReprK.of_is (ReprIs.int t (by simpa [PyData.showable] using hs)) _ _ _
  | .str x, v, u, h, r, _, hz => by
    cases h
    obtain ⟨t, rfl⟩ := r
    refine ⟨⟨_, Reads.str x t⟩, [], (fun _ z => nomatch z), ?_⟩
    simp only [PyData.shown] at hz ⊢; exact ReprK.of_is (ReprIs.str x t hz) _ _ _
  | .list ds, v, u, h, r, hs, hz => by
    cases h with
    | @lst a vs _ ha hall =>
      cases (show u = Value.ref a from r)
      obtain ⟨_, its, n, rv, e⟩ := (show ObjOk X.prog X.w H s.heap a (.lst vs) from I.hok a _ ha)
      simp only [PyData.shown] at hz
      simp only [PyData.showable] at hs
      obtain ⟨⟨as, ra⟩, bs, hb, hk⟩ := RpAll.k I ds vs its hall rv hs (fun t ht => Nat.le_trans (listText_mem_le ht) hz)
      have hr : Reads s.heap (.ref a) (.list ds) (a :: as) := Reads.list (vs := its.toArray) e rfl rfl (by simpa using ra)
      have hna : a ∉ bs := not_mem_of_deeper hr (by simp only [PyData.depth]; omega) hb
      refine ⟨⟨_, hr⟩, a :: bs, ReadAtMost.cons hr (by simp only [PyData.depth]; omega) hb, ?_⟩
      simp only [PyData.depth, PyData.shown]
      cases its with
      | nil =>
        cases ra
        simp only [PyData.shownAll, listText_nil]
        exact ReprK.listEmpty e rfl rfl
      | cons y l => exact ReprK.list e rfl rfl hna (by simpa using hk.length_eq) (fun i z q => hk.item i z (by simpa using q))
  | .tuple ds, v, u, h, r, hs, hz => by
    cases h with
    | @tup a vs _ ha hall =>
      cases (show u = Value.ref a from r)
      obtain ⟨_, its, rv, o, e1, e2, n, e3⟩ := (show ObjOk X.prog X.w H s.heap a (.tup vs) from I.hok a _ ha)
      simp only [PyData.shown] at hz
      simp only [PyData.showable] at hs
      obtain ⟨⟨as, ra⟩, bs, hb, hk⟩ := RpAll.k I ds vs its hall rv hs (fun t ht => Nat.le_trans (tupleText_mem_le ht) hz)
      have hr : Reads s.heap (.ref a) (.tuple ds) as := Reads.tuple (vs := its.toArray) e1 e2 e3 (by simpa using ra)
      have hna : a ∉ bs := not_mem_of_deeper hr (by simp only [PyData.depth]; omega) hb
      refine ⟨⟨_, hr⟩, a :: bs, ReadAtMost.cons hr (by simp only [PyData.depth]; omega) hb, ?_⟩
      simp only [PyData.depth, PyData.shown]
      exact ReprK.tuple e1 e2 e3 hna (by simpa using hk)
  | .dict ps, v, u, h, r, hs, hz => by
    cases h with
    | @dic a es _ ha hall =>
      cases (show u = Value.ref a from r)
      obtain ⟨_, hsys, ws, rv, o, ents, ep, e1, ex, e3, _, hp, _⟩ := (show ObjOk X.prog X.w H s.heap a (.dK es) from I.hok a _ ha)
      simp only [PyData.shown] at hz
      simp only [PyData.showable] at hs
      obtain ⟨⟨as1, as2, ra, rb⟩, bs, hb, hk⟩ := RpKv.k I ps es ws ents.toList hall rv hp hs (fun t ht => Nat.le_trans (dictText_mem_le ht) hz)
      have hr : Reads s.heap (.ref a) (.dict ps) (a :: as1 ++ as2) := Reads.dict e1 ex.1 e3 ra rb
      have hna : a ∉ bs := not_mem_of_deeper hr (by simp only [PyData.depth]; omega) hb
      refine ⟨⟨_, hr⟩, a :: bs, ReadAtMost.cons hr (by simp only [PyData.depth]; omega) hb, ?_⟩
      simp only [PyData.depth, PyData.shown]
      exact ReprK.dict e1 ex.1 e3 hsys hna hk
theorem RpAll.k (I : Inv X pins σ H s) : ∀ (ds : List PyData) (vs : List V) (us : List Value), RpAll H vs ds → Vals vs us → PyData.showableAll ds = true → (∀ t ∈ PyData.shownAll ds, t.length ≤ sizeLine) →
    (∃ as, ReadsAll s.heap us ds as) ∧ ∃ bs, ReadAtMost s.heap (PyData.depthAll ds) bs ∧ ReprAllK X.prog X.w bs s.heap (PyData.depthAll ds) us (PyData.shownAll ds)
  | [], vs, us, h, r, _, _ => by
    cases h; cases r
    refine ⟨⟨_, ReadsAll.nil⟩, [], (fun _ z => nomatch z), ?_⟩
    simp only [PyData.shownAll]; exact ReprAllK.nil
  | d :: ds, vs, us, h, r, hs, hz => by
    cases h with
    | cons h1 h2 =>
      cases r with
      | cons r1 r2 =>
        simp only [PyData.showableAll, Bool.and_eq_true] at hs
        obtain ⟨⟨a1, q1⟩, b1, p1, k1⟩ := Rp.k I d _ _ h1 r1 hs.1 (hz _ (by simp only [PyData.shownAll]; exact List.mem_cons_self))
        obtain ⟨⟨a2, q2⟩, b2, p2, k2⟩ := RpAll.k I ds _ _ h2 r2 hs.2 (fun t ht => hz t (by simp only [PyData.shownAll]; exact List.mem_cons_of_mem _ ht))
        refine ⟨⟨_, ReadsAll.cons q1 q2⟩, b1 ++ b2, (p1.mono (by simp only [PyData.depthAll]; omega)).append (p2.mono (by simp only [PyData.depthAll]; omega)), ?_⟩
        simp only [PyData.depthAll, PyData.shownAll]
        exact ReprAllK.cons ((k1.more (fun b hm => List.mem_append_left _ hm)).level_le (Nat.le_max_left _ _)) (k2.more_le (fun b hm => List.mem_append_right _ hm) (Nat.le_max_right _ _))
theorem RpKv.k (I : Inv X pins σ H s) : ∀ (ps : List (PyData × PyData)) (es : List (Key × V)) (ws : List (Key × Value)) (ents : List DictEntry), RpKv H es ps → KV es ws → Pairs (mixKind X.prog X.w) ents ws →
    PyData.showableKv ps = true → (∀ t ∈ PyData.shownKv ps, t.length ≤ sizeLine) →
    (∃ as bs, ReadsAll s.heap (ents.map (·.key)) (ps.map (·.1)) as ∧ ReadsAll s.heap (ents.map (·.val)) (ps.map (·.2)) bs) ∧
      ∃ bs, ReadAtMost s.heap (PyData.depthKv ps) bs ∧ ReprEntriesK X.prog X.w bs s.heap (PyData.depthKv ps) ents (PyData.shownKv ps)
  | [], es, ws, ents, h, r, hp, _, _ => by
    cases h; cases r; cases hp
    refine ⟨⟨_, _, ReadsAll.nil, ReadsAll.nil⟩, [], (fun _ z => nomatch z), ?_⟩
    simp only [PyData.shownKv]; exact ReprEntriesK.nil
  | (kd, d) :: ps, es, ws, ents, h, r, hp, hs, hz => by
    cases h with
    | @cons x v es' _ _ h1 h2 =>
      cases r with
      | @cons _ w1 _ wr r1 r2 =>
        obtain ⟨wk, wv⟩ := w1
        obtain ⟨ek, rv⟩ := r1
        cases hp with
        | @cons en kv er kvr hk hv hr =>
          have ek' : (Sum.inr x : Key) = wk := ek
          subst ek'
          have hv' : en.val = wv := hv
          obtain ⟨hh0, k0, v0⟩ := en
          have hv'' : v0 = wv := hv'
          subst hv''
          have sh := keyIs_shape (show keyIs (Sum.inr x) k0 = true from hk)
          obtain ⟨t, rfl⟩ : ∃ t, k0 = Value.str x t := by
            rcases sh with ⟨i, t, q, _⟩ | ⟨y, t, q, e⟩
            · exact nomatch q
            · cases q; exact ⟨t, e⟩
          simp only [PyData.showableKv, Bool.and_eq_true] at hs
          have hz1 : ((PyData.str x).shown ++ ": " ++ d.shown).length ≤ sizeLine := hz _ (by simp only [PyData.shownKv]; exact List.mem_cons_self)
          have hzk : (PyData.str x).shown.length ≤ sizeLine := by rw [strLen_append, strLen_append] at hz1; omega
          have hzv : d.shown.length ≤ sizeLine := by rw [strLen_append, strLen_append] at hz1; omega
          obtain ⟨⟨a1, q1⟩, b1, p1, k1⟩ := Rp.k I d _ _ h1 rv hs.1.2 hzv
          obtain ⟨⟨a2, c2, q2, q3⟩, b2, p2, k2⟩ := RpKv.k I ps es' wr er h2 r2 hr hs.2 (fun t ht => hz t (by simp only [PyData.shownKv]; exact List.mem_cons_of_mem _ ht))
          have kk : ReprK X.prog X.w (b1 ++ b2) s.heap (max (max (PyData.str x).depth d.depth) (PyData.depthKv ps)) (.str x t) (PyData.str x).shown := by
            simp only [PyData.shown] at hzk ⊢
            exact ReprK.of_is (ReprIs.str x t hzk) _ _ _
          refine ⟨⟨_, _, ReadsAll.cons (Reads.str x t) q2, ReadsAll.cons q1 q3⟩, b1 ++ b2, (p1.mono (by simp only [PyData.depthKv]; omega)).append (p2.mono (by simp only [PyData.depthKv]; omega)), ?_⟩
          simp only [PyData.depthKv, PyData.shownKv]
          refine ReprEntriesK.cons kk ((k1.more (fun b hm => List.mem_append_left _ hm)).level_le (by omega)) ?_
          exact entries_more (fun b hm => List.mem_append_right _ hm) (by omega) k2
end
end
end Wk
namespace Wk
open PySem PySem.Spec PyProof.Rows L2
/-- repr(xs), xs a list of such data -/
def rReprL : List V → Hp → VK → Prop := fun xs H Q => ∃ (a : Addr) (vs : List V) (ds : List PyData), xs = [.ref a] ∧ H a = some (.lst vs) ∧ RpAll H vs ds ∧ PyData.showableAll ds = true ∧ PyData.depthAll ds ≤ 40 ∧
  (listText (PyData.shownAll ds)).length ≤ sizeLine ∧ Q (.str (listText (PyData.shownAll ds))) H
section
variable {X : Cx}
theorem call_reprL (hg : Gd X.A) (hu : X.A.units + 64 < cLine) : CallR X (.builtin "repr") rReprL := by
  intro pins s σ H xs us Q I r h
  obtain ⟨a, vs, ds, rfl, ha, hall, hs, hd, hz, q⟩ := h
  obtain ⟨u, rfl, e⟩ := vals1 r
  cases (show u = Value.ref a from e)
  obtain ⟨_, its, n, rv, e1⟩ := (show ObjOk X.prog X.w H s.heap a (.lst vs) from I.hok a _ ha)
  obtain ⟨⟨as, ra⟩, bs, hb, hk⟩ := RpAll.k I ds vs its hall rv hs (fun t ht => Nat.le_trans (listText_mem_le ht) hz)
  have hr : Reads s.heap (.ref a) (.list ds) (a :: as) := Reads.list (vs := its.toArray) e1 rfl rfl (by simpa using ra)
  have hna : a ∉ bs := not_mem_of_deeper hr (by simp only [PyData.depth]; omega) hb
  refine call_repr_slot (by omega) ⟨_, e1, rfl⟩ F.slot_list_repr.toG ?_
  cases its with
  | nil =>
    cases ra
    simp only [PyData.shownAll, listText_nil] at q
    exact call_list_repr_empty ⟨_, e1, rfl⟩ e1 rfl ⟨_, _, rfl, .str "[]", H, I.tok _, ⟨_, rfl⟩, q⟩
  | cons y l =>
    refine call_list_reprK e1 rfl rfl hna (by simpa using hk.length_eq) (fun i z w => hk.item i z (by simpa using w)) hg (fun b _ => Clear.nil b) (by show X.A.units + 1 + _ < _; omega) (fun _ _ z => z) (fun h' u tk kp => ?_) hz
    exact ⟨_, _, rfl, .str _, H, I.kept (t' := tk) kp, ⟨_, rfl⟩, q⟩
end
end Wk
/-! Exceptions of own classes: the handled one as an argument (isinstance, its fields), made with fields, made as values. -/
namespace Wk
open PySem PySem.Spec PyProof.Rows L2
/-- the exception's own dict, if it has one, is tracked -/
def DictOk (d : Option Addr) (H : Hp) : Prop := d = none ∨ ∃ (dd : Addr) (fs : List (Str × V)), d = some dd ∧ H dd = some (.xd fs)
section
variable {X : Cx} {a : Addr} {oe : Obj} {cls : Value} {d : Option Addr} {pins : List (Addr × Obj)} {σ : L2.St} {H : Hp} {s : Shared} {D : Addr}
theorem inst_of (I : Inv X pins σ H s) (hg : s.heap.get? a = some oe) (hz : Zc (.ref D) d oe) (hf : ∃ ws, oe.data = .fields ws) (hd : DictOk d H) : ∃ od, PySem.W.InstAt s.heap a oe D od := by
  obtain ⟨ws, hw⟩ := hf
  have hn : PySem.W.notCls oe = true := by unfold PySem.W.notCls; rw [hw] <;> rfl
  rcases hd with rfl | ⟨dd, fs, rfl, ha⟩
  · exact ⟨none, hg, hz.1, hn, by rw [hz.2]; trivial⟩
  · have hx : ObjOk X.prog X.w H s.heap dd (.xd fs) := I.hok dd _ ha
    obtain ⟨mA, ⟨o, es, ep, ho, _⟩, _⟩ := hx
    exact ⟨some o, hg, hz.1, hn, by rw [hz.2]; exact ho⟩
/-- isinstance(e, c) where e is the exception at a -/
def rIsP (K : PySem.W.Frag) (a : Addr) (cls : Value) (d : Option Addr) : List V → Hp → VK → Prop := fun xs H Q => ∃ (c : V) (cv : Value) (b : Bool) (D : Addr), xs = [.ref a, c] ∧ ClsV c cv ∧ cls = .ref D ∧ ExcC K D ∧ DictOk d H ∧
  PySem.W.kitOne K (.ref D) cv = some b ∧ Q (.bl b) H
theorem call_isP (hp : (a, oe) ∈ X.pn) (hz : Zc cls d oe) (hf : ∃ ws, oe.data = .fields ws) : CallR X (.builtin "isinstance") (rIsP X.K a cls d) := by
  intro pins s σ H xs us Q I r h
  obtain ⟨c, cv, b, D, rfl, hc, rfl, T, hd, e, q⟩ := h
  obtain ⟨u1, u2, rfl, r1, r2⟩ := vals2 r
  cases (show u1 = Value.ref a from r1)
  have ec := hc.eq r2
  subst ec
  obtain ⟨od, J⟩ := inst_of I (I.pin (a, oe) (List.mem_append_left _ hp)).1 hz hf hd
  have hcl : (PySem.W.clsIn X.K D).isSome = true := by
    have hh := T.hd
    unfold PySem.W.hasDictIn at hh
    cases e2 : PySem.W.clsIn X.K D with
    | none => rw [e2] at hh; cases hh
    | some _ => rfl
  exact PySem.W.kia_one (PySem.W.kitx_exc hcl T.hg T.hk T.hs T.ha T.hn T.ht T.hm) I.kIn J e (fun z => nomatch z) fun tk => ⟨.bl b, H, I.tok tk, rfl, q⟩
/-- e.f where e is the exception at a -/
def tXfP (K : PySem.W.Frag) (a : Addr) (cls : Value) (d : Option Addr) (f : Str) (te : TE) : TE := fun σ H Q => te σ H fun x H1 => x = .ref a ∧ ∃ (D dd : Addr) (fs : List (Str × V)) (v : V), cls = .ref D ∧ XfC K D ∧
  PySem.W.findIn K (.ref D) f = some none ∧ d = some dd ∧ H1 dd = some (.xd fs) ∧ fs.lookup f = some v ∧ Q v H1
theorem pe_xfP {e : Expr} {te : TE} {pos : Pos} {n : Str} (hp : (a, oe) ∈ X.pn) (hz : Zc cls d oe) (hf : ∃ ws, oe.data = .fields ws) (he : PE X e te) (hb : attributeBase e n X.env (eval e X.env) = eval e X.env := by rfl) :
    PE X (.Attribute e n pos) (tXfP X.K a cls d n te) := by
  refine ⟨fun pins s σ H Q I h => attr_of hb (thn (he.run pins s σ H _ I h) fun u s1 hh => ?_)⟩
  obtain ⟨x, H1, I1, rx, rfl, D, dd, fs, v, rfl, T, hno, rfl, ea, l, q⟩ := hh
  cases (show u = Value.ref a from rx)
  obtain ⟨ha, _⟩ := I1.pin (a, oe) (List.mem_append_left _ hp)
  obtain ⟨ws, hw⟩ := hf
  obtain ⟨mA, hns, hr⟩ := (show ObjOk X.prog X.w H1 s1.heap dd (.xd fs) from I1.hok dd _ ea)
  obtain ⟨od, ho, hl⟩ := lookIn_ns hns
  obtain ⟨u2, hu, ru⟩ := RelO.some_of (v := v) (o := mA n) (by rw [← l]; exact hr n)
  have J : PySem.W.InstAt s1.heap a oe D (some od) := ⟨ha, hz.1, by unfold PySem.W.notCls; rw [hw] <;> rfl, by rw [hz.2]; exact ho⟩
  exact HandSPX.exc_get I1.kIn J T.ga T.gg T.exC (PySem.W.findObj_own T.hdC hno rfl (by rw [hl, hu])) (handed_of ru) ⟨v, H1, I1.tok _, ru, q⟩
end

/-! ### made with fields, its context None -/
section
variable {X : Cx} {e : Expr} {es : List Expr} {ta : TA} {p pos : Pos}
theorem pmkN_oex {CX : CXT} {x : Str} {C fI : Addr} {k : Nat} {fd : FuncData} {ps : List Str} {sp : Sp} (T : OexC X.K C) (iC : PySem.W.findIn X.K (.ref C) "__init__" = some (some (.ref fI))) (tI : PySem.W.typeIn X.K (.ref fI) = some (.type "function"))
    (F1 : FnOk X.prog X.w X.K X.mg X.base CX k fI fd ps sp) (hr : Room (k + 1) X.A) (hb : Binds X.K fd ps []) (hx : Passes CX X (fun _ _ _ => False)) (hg : Gl X x) (hm : X.mg x = some (.ref C)) (ha : PA X (e :: es) ta)
    (hdb : (x == ("__debug__" : Str)) = false := by decide) (he : starEach (e :: es) X.env = (false, eval e X.env) :: starEach es X.env := by rfl) (hpl : (backTo pos (starEach es X.env)).any (·.1) = false := by rfl) :
    L2N.PMk X (.Call (.Name x p) (e :: es) [] pos) (tMkO C sp [] ta) := by
  intro pins s σ H Q I h
  obtain ⟨nm, q, N, bs, bm, sn, sub, ab, col, dd, k0, k1, k2, k3, k5, hC, hbm⟩ := T.cls
  refine wpAny_Call_Name_kw (ld_glob I hg hm ?_ hdb)
  refine PySem.W.callWith_K (h₀ := X.base) I.ok.mod.kin T.kC (thn (ha.run pos pins s σ H _ I h) (fun us s1 hu => ?_)) he hpl
  obtain ⟨vs, H1, I1, r1, hz, q1⟩ := hu
  refine ⟨I1.kIn, ?_⟩
  obtain ⟨hp, g, dr, tk, os⟩ := s1
  have up : hp.objs.size ≤ hp.objs.size + 1 := Nat.le_succ _
  have fresh : H1 (hp.objs.size + 1) = none := I1.hok.fresh up
  have hq := q1 (hp.objs.size + 1) fresh
  rw [List.append_nil] at hq
  have keep : ∀ b o, hp.get? b = some o → ((hp.push (PySem.W.kdv_tup us)).push (PySem.HandSPX.excO C hp.objs.size)).get? b = some o := fun b o z => Heap.get?_push_of_some _ (Heap.get?_push_of_some _ z)
  have here : ((hp.push (PySem.W.kdv_tup us)).push (PySem.HandSPX.excO C hp.objs.size)).get? (hp.objs.size + 1) = some (PySem.HandSPX.excO C hp.objs.size) := by heap_get
  have J : Inv X pins σ (upd H1 (hp.objs.size + 1) (exo (hp.objs.size + 1) C none)) ⟨(hp.push (PySem.W.kdv_tup us)).push (PySem.HandSPX.excO C hp.objs.size), g, dr, tk, os⟩ := I1.laid (t' := tk) keep up (exo_ok here)
  have r2 : Vals (V.ref (hp.objs.size + 1) :: vs) (Value.ref (hp.objs.size + 1) :: us) := .cons rfl r1
  have hl : (Value.ref (hp.objs.size + 1) :: us ++ []).length = ps.length := by
    have z := r2.length
    rw [F1.len _ _ _ _ hq] at z
    rw [List.append_nil]; exact z.symm
  have small : us.length ≤ sizeLine := by rw [← Paired.length r1, sizeLine_eq]; omega
  have b := hb _ (Value.ref (hp.objs.size + 1) :: us) J.kIn hl
  rw [List.append_nil] at b
  refine wpAny_call (PySem.HandSPX.call_own F.excBase_ValueError (fun Y => PySem.HandSPX.refsVE_contains Y bm hbm) (I1.kIn _ _ hC) (PySem.W.looks_findIn I1.kIn iC) (fun self => PySem.W.bind_fn I1.kIn self tI) small
    (codeAny_mono (F1.run _ X.stack _ _ ⟨Value.ref (hp.objs.size + 1) :: us, []⟩ (Value.ref (hp.objs.size + 1) :: us) _ _ (fun _ _ _ => False) (hr.make C us []) (J.env0.make C us []) b r2 hq) (fun r s' hq' => ?_)))
  cases r with
  | error er => exact hx pins σ _ _ er s' J hq'
  | ok fl =>
    match fl, hq' with
    | .ret u, hq' =>
      obtain ⟨v, H2, os2, bare2, un2, hok2, rv, ev, d, fs, ea, ed, hd1, q2⟩ := hq'
      subst ev
      obtain ⟨h2, g2, d2, t2, os'⟩ := s'
      obtain ⟨t0, G, J2, kG, ge, hoe, na⟩ := mk_end0 (d2 := d2) (t2 := t2) I1 up keep un2 hok2 os2 bare2 ea ed hd1
      exact ⟨rv, hp.objs.size + 1, _, _, ⟨G, g2, d2, t2, os'⟩, _, .ref C, some d, rfl, J2, kG, ge, hoe, ⟨rfl, rfl, fun ws hw => by cases hw; rfl⟩, rfl, rfl, na, rfl, bare2, raises_own T.exC T.tyC, q2⟩
end

/-! ### made without fields -/
section
variable {X : Cx} {C : Addr} {bmB : List Value} {B newId initId : String} {x : Str} {p pos : Pos}
/-- X(..) of an own class without own __init__: what is made -/
theorem made_exc {pins : List (Addr × Obj)} {σ : L2.St} {H : Hp} {s : Shared} {us : List Value} {Q : Value → Shared → Prop} {E : Value → Shared → Prop} (F : ExcBaseFacts B newId initId bmB) (q : PySem.W.excIn X.K C bmB newId = true) (I : Inv X pins σ H s) (hz : us.length ≤ sizeLine)
    (h : ∀ h' e, Heap.MadeExcOf s.heap h' e (.ref C) us → Q (.ref e) { s with heap := h' }) : wpAny (model X.prog X.w) X.A (call (.ref C) us) Q E s := by
  obtain ⟨hp, g, d, t, os⟩ := s
  obtain ⟨bm, N, nm, qn, bs, hdct, sn, sub, ab, col, dd, k0, k1, k2, k3, k5, mN, hC, hN, hni, T⟩ := exc_obj I.kIn q
  exact wpAny_call_exc_subT F T hC hN hni (fun h' e hm => h h' e hm) hz
theorem pmkN_own0 (F : ExcBaseFacts B newId initId bmB) (q : PySem.W.excIn X.K C bmB newId = true) (gC : X.mg x = some (.ref C)) (kC : PySem.W.keepIn X.K (.ref C) = true) (r : Raises X (.ref C)) (hg : Gl X x)
    (hdb : (x == ("__debug__" : Str)) = false := by decide) : L2N.PMk X (.Call (.Name x p) [] [] pos) (fun _ H Q => Q (.ref C) none H) := by
  intro pins s σ H Q I h
  refine wpAny_Call_Name_kw (ld_glob I hg gC ?_ hdb)
  refine PySem.W.callWith_K0 I.kIn kC (made_exc F q I (Nat.zero_le _) fun h' e hm => ?_)
  exact L2N.mk_of I hm r h (I.hok.gone hm.new)
theorem pmkN_ownA {e : Expr} {es : List Expr} {t : TA} (F : ExcBaseFacts B newId initId bmB) (q : PySem.W.excIn X.K C bmB newId = true) (gC : X.mg x = some (.ref C)) (kC : PySem.W.keepIn X.K (.ref C) = true) (r : Raises X (.ref C)) (hg : Gl X x) (ha : PA X (e :: es) t)
    (hdb : (x == ("__debug__" : Str)) = false := by decide) (he : starEach (e :: es) X.env = (false, eval e X.env) :: starEach es X.env := by rfl) (hpl : (backTo pos (starEach es X.env)).any (·.1) = false := by rfl) :
    L2N.PMk X (.Call (.Name x p) (e :: es) [] pos) (fun σ H Q => t σ H fun vs H1 => vs.length ≤ sizeLine ∧ Q (.ref C) none H1) := by
  intro pins s σ H Q I h
  refine wpAny_Call_Name_kw (ld_glob I hg gC ?_ hdb)
  refine PySem.W.callWith_K (h₀ := X.base) I.ok.mod.kin kC (thn (ha.run pos pins s σ H _ I h) (fun us s1 hu => ?_)) he hpl
  obtain ⟨vs, H1, I1, r1, hz, q1⟩ := hu
  exact ⟨I1.kIn, made_exc F q I1 (by have z := r1.length; show us.length ≤ sizeLine; omega) fun h' e hm => L2N.mk_of I1 hm r q1 (I1.hok.gone hm.new)⟩
/-- X(..) as a value -/
theorem pe_excV0 (F : ExcBaseFacts B newId initId bmB) (q : PySem.W.excIn X.K C bmB newId = true) (gC : X.mg x = some (.ref C)) (kC : PySem.W.keepIn X.K (.ref C) = true) (hg : Gl X x) (hdb : (x == ("__debug__" : Str)) = false := by decide) :
    PE X (.Call (.Name x p) [] [] pos) (fun _ H Q => ∀ a, H a = none → Q (.ref a) (upd H a (ExO (.ref C) a))) := by
  refine ⟨fun pins s σ H Q I h => wpAny_Call_Name_kw (ld_glob I hg gC ?_ hdb)⟩
  refine PySem.W.callWith_K0 I.kIn kC (made_exc F q I (Nat.zero_le _) fun h' a hm => ?_)
  have hn : H a = none := I.hok.gone hm.new
  obtain ⟨t, ht, _, _⟩ := hm.there
  exact ⟨.ref a, _, I.laidN (t' := s.toks) hm.keeps hm.new hn (exO_ok ht ⟨rfl, rfl⟩ rfl rfl rfl (show 4 < 6 by decide)), rfl, h a hn⟩
theorem pe_excVA {e : Expr} {es : List Expr} {t : TA} (F : ExcBaseFacts B newId initId bmB) (q : PySem.W.excIn X.K C bmB newId = true) (gC : X.mg x = some (.ref C)) (kC : PySem.W.keepIn X.K (.ref C) = true) (hg : Gl X x) (ha : PA X (e :: es) t)
    (hdb : (x == ("__debug__" : Str)) = false := by decide) (he : starEach (e :: es) X.env = (false, eval e X.env) :: starEach es X.env := by rfl) (hpl : (backTo pos (starEach es X.env)).any (·.1) = false := by rfl) :
    PE X (.Call (.Name x p) (e :: es) [] pos) (fun σ H Q => t σ H fun vs H1 => vs.length ≤ sizeLine ∧ ∀ a, H1 a = none → Q (.ref a) (upd H1 a (ExO (.ref C) a))) := by
  refine ⟨fun pins s σ H Q I h => wpAny_Call_Name_kw (ld_glob I hg gC ?_ hdb)⟩
  refine PySem.W.callWith_K (h₀ := X.base) I.ok.mod.kin kC (thn (ha.run pos pins s σ H _ I h) (fun us s1 hu => ?_)) he hpl
  obtain ⟨vs, H1, I1, r1, hz, q1⟩ := hu
  refine ⟨I1.kIn, made_exc F q I1 (by have z := r1.length; show us.length ≤ sizeLine; omega) fun h' a hm => ?_⟩
  have hn : H1 a = none := I1.hok.gone hm.new
  obtain ⟨w, ht, _, _⟩ := hm.there
  exact ⟨.ref a, _, I1.laidN (t' := s1.toks) hm.keeps hm.new hn (exO_ok ht ⟨rfl, rfl⟩ rfl rfl rfl (show 4 < 6 by decide)), rfl, q1 a hn⟩
/-- isinstance(e, c), e such a value -/
def rIsV (K : PySem.W.Frag) : List V → Hp → VK → Prop := fun xs H Q => ∃ (a D : Addr) (c : V) (cv : Value) (b : Bool), xs = [.ref a, c] ∧ H a = some (ExO (.ref D) a) ∧ ClsV c cv ∧ ExcC K D ∧ PySem.W.kitOne K (.ref D) cv = some b ∧ Q (.bl b) H
theorem call_isV : CallR X (.builtin "isinstance") (rIsV X.K) := by
  intro pins s σ H xs us Q I r h
  obtain ⟨a, D, c, cv, b, rfl, hx, hc, T, e, q⟩ := h
  obtain ⟨u1, u2, rfl, r1, r2⟩ := vals2 r
  cases (show u1 = Value.ref a from r1)
  have ec := hc.eq r2
  subst ec
  have hx2 : ObjOk X.prog X.w H s.heap a (ExO (.ref D) a) := I.hok a _ hx
  obtain ⟨⟨oe, ws, hg, hz, hw, _⟩, _, _⟩ := hx2
  obtain ⟨od, J⟩ := inst_of I hg hz ⟨ws, hw⟩ (Or.inl rfl)
  have hcl : (PySem.W.clsIn X.K D).isSome = true := by
    have hh := T.hd
    unfold PySem.W.hasDictIn at hh
    cases e2 : PySem.W.clsIn X.K D with
    | none => rw [e2] at hh; cases hh
    | some _ => rfl
  exact PySem.W.kia_one (PySem.W.kitx_exc hcl T.hg T.hk T.hs T.ha T.hn T.ht T.hm) I.kIn J e (fun z => nomatch z) fun tk => ⟨.bl b, H, I.tok tk, rfl, q⟩
end
end Wk
/-! A list comprehension within an except suite. -/
namespace Wk
open PySem PySem.Spec PyProof.Rows L2
/-- the comprehension's block, the suite's pins borne -/
abbrev blkP (X : Cx) (s : Shared) (H : Hp) (scope : Scope) (cenv : Env) (fp : List Addr) : Cx := { X.blk s H scope cenv fp with pn := X.pn }
section
variable {X : Cx} {s s' : Shared} {H H' : Hp} {scope : Scope} {cenv : Env} {fp : List Addr} {pins : List (Addr × Obj)} {σ : L2.St}
theorem Cx.Ok.toP (o : (X.blk s H scope cenv fp).Ok) : (blkP X s H scope cenv fp).Ok :=
  ⟨o.mod, o.kind, o.glob, o.blt, o.above, o.inj, o.has, o.cab, o.hd, o.frames, o.stk, o.exf, o.bs, o.bsz, o.noex, o.exfs, o.funs, o.frf⟩
theorem Cx.Ok.ofP (o : (blkP X s H scope cenv fp).Ok) : (X.blk s H scope cenv fp).Ok :=
  ⟨o.mod, o.kind, o.glob, o.blt, o.above, o.inj, o.has, o.cab, o.hd, o.frames, o.stk, o.exf, o.bs, o.bsz, o.noex, o.exfs, o.funs, o.frf⟩
theorem toP (I : Inv (X.blk s H scope cenv fp) pins σ H' s') (h : ∀ p ∈ X.pn, s'.heap.get? p.1 = some p.2 ∧ H' p.1 = none ∧ p.1 ≠ cenv.locals ∧ p.1 ∉ frs X.stack ∧ ∀ v, p.2.data ≠ .cell v) :
    Inv (blkP X s H scope cenv fp) pins σ H' s' :=
  ⟨Cx.Ok.toP I.ok, I.os, I.bare, I.base, I.loc, I.cell, I.free, I.freeC, fun p hp => (List.mem_append.mp hp).elim (h p) (fun z => I.pin p (List.mem_append_right _ z)), I.hok, I.len⟩
theorem ofP (I : Inv (blkP X s H scope cenv fp) pins σ H' s') : Inv (X.blk s H scope cenv fp) pins σ H' s' :=
  ⟨Cx.Ok.ofP I.ok, I.os, I.bare, I.base, I.loc, I.cell, I.free, I.freeC, fun p hp => (List.mem_append.mp hp).elim (fun z => nomatch z) (fun z => I.pin p (List.mem_append_right _ z)), I.hok, I.len⟩
end
section
variable {X : Cx}
theorem pe_lcH {elt tg iter : Expr} {ifs : List Expr} {scope : Scope} {own : List (Str × Nat)} {pos : Pos} {wi : TI} {g : TG} {tt : TT} {te : TE} (hc : L2H.HotC X) (hN : X.N.Nodup) (hi : L2H.PIH X tg iter wi) (ok : BlkOk X.N X.env.scope scope own)
    (hg : ∀ (s : Shared) (H : Hp) (C : Addr) (cl : List (Str × Addr)) (fp : List Addr), PG (X.blk s H scope (compEnvC scope cl C X.env) fp) tg g)
    (ht : ∀ (s : Shared) (H : Hp) (C : Addr) (cl : List (Str × Addr)) (fp : List Addr), PTs (X.blk s H scope (compEnvC scope cl C X.env) fp) ifs tt)
    (he : ∀ (s : Shared) (H : Hp) (C : Addr) (cl : List (Str × Addr)) (fp : List Addr), PE (X.blk s H scope (compEnvC scope cl C X.env) fp) elt te)
    (hs : ∀ x, foldedSetIterable iter X.env x = pure x := by intro _; rfl) : PE X (.ListComp elt [⟨tg, iter, ifs, 0⟩] scope pos) (tLc wi g tt te (own.map (·.2))) := by
  refine ⟨fun pins s σ H Q I h => ?_⟩
  rw [eval_ListComp]
  have hfree : ∀ y ∈ scope.names, y.2 = .free → ∃ c, X.env.cells.lookup y.1 = some c := by
    intro y hy z
    exact (ok.free y hy z).elim (fun k => I.ok.has _ (.inl k)) (fun k => I.ok.has _ (.inr k))
  refine wpAny_comprehension_free (use := none) rfl hs (closure_ok hfree) ok.kind (fun y hy z => by rw [ok.uniq y hy, z]) (thn (hi.run pins s σ H _ I h) (fun xv s1 hx => thn hx (fun itv s2 h2 => ?_)))
  obtain ⟨it, fp, tn, J, H2, rfl, I2, T, st2, f2, q⟩ := h2
  refine wpAny_newObj_type (newEnv_comp ?_) (by show 0 ≤ sizeLine; decide)
  generalize hD : s2.heap.objs.size = D
  have nD : H2 D = none := I2.hok.fresh (Nat.le_of_eq hD)
  obtain ⟨W, ⟨m0, w0⟩, turn⟩ := q D nD
  generalize hs3 : ({ s2 with heap := s2.heap.push { cls := .type "list", data := .seq ([] : List Value).toArray } } : Shared) = s3
  have e3 : s3.heap = s2.heap.push { cls := .type "list", data := .seq ([] : List Value).toArray } := by rw [← hs3]
  have I3 : Inv X pins σ (upd H2 D (.lst [])) s3 := by
    rw [← hs3]
    refine I2.laid (t' := s2.toks) (fun b o z => Heap.get?_push_of_some _ z) (Nat.le_of_eq hD) ⟨Nat.zero_le _, [], 0, .nil, ?_⟩
    rw [← hD]; exact Heap.get?_push_size _ rfl
  have lt2 : ∀ b ∈ fp, b < s2.heap.objs.size := fun b hb => (T.obj _ _ st2 b hb).elim fun o z => Heap.lt_size z.1
  have f3 : ∀ b ∈ fp, FpOk X pins (upd H2 D (.lst [])) b ∧ b < s3.heap.objs.size := by
    intro b hb
    refine ⟨⟨?_, (f2 b hb).2⟩, by rw [e3, Heap.size_push]; exact Nat.lt_succ_of_lt (lt2 b hb)⟩
    rw [upd_ne (by rw [← hD]; exact Nat.ne_of_lt (lt2 b hb))]
    exact (f2 b hb).1
  have st3 : tn 0 s3.heap := T.keep _ _ _ st2 (fun b _ o z => by rw [e3]; exact Heap.get?_push_of_some _ z)
  have I4 := block_start I3 ok hN f3
  have pg := hg s3 (upd H2 D (.lst [])) s3.heap.objs.size (cellsFrom (s3.heap.objs.size + 1) scope.names (cloFrom X.env.cells scope.names [])) fp
  have pt := ht s3 (upd H2 D (.lst [])) s3.heap.objs.size (cellsFrom (s3.heap.objs.size + 1) scope.names (cloFrom X.env.cells scope.names [])) fp
  have pe := he s3 (upd H2 D (.lst [])) s3.heap.objs.size (cellsFrom (s3.heap.objs.size + 1) scope.names (cloFrom X.env.cells scope.names [])) fp
  show codeAny _ _ (.compStart (.ListComp elt [⟨tg, iter, ifs, 0⟩] scope pos) 0 (.ref it) (.ref D)
    (compEnvC scope (cellsFrom (s3.heap.objs.size + 1) scope.names (cloFrom X.env.cells scope.names [])) s3.heap.objs.size X.env))
    (compPost (model X.prog X.w) X.A X.xe none (EP X pins σ Q) (.ref D) s3.heap.objs.size) { s3 with heap := pushCells (s3.heap.push { cls := .type "dict", data := .dict #[] }) scope.names }
  have nfp : ∀ b ∈ fp, (upd H2 D (.lst [])) b = none := fun b hb => (f3 b hb).1.1
  generalize hce : compEnvC scope (cellsFrom (s3.heap.objs.size + 1) scope.names (cloFrom X.env.cells scope.names [])) s3.heap.objs.size X.env = ce at I4 pg pt pe ⊢
  have cL : ce.locals = s3.heap.objs.size := by subst hce; rfl
  generalize hH3 : upd H2 D (.lst []) = H3 at I3 I4 pg pt pe w0 nfp f3
  generalize hs4 : ({ s3 with heap := pushCells (s3.heap.push { cls := .type "dict", data := .dict #[] }) scope.names } : Shared) = s4 at I4 ⊢
  have st4 : tn 0 s4.heap := T.keep _ _ _ st3 (fun b _ o z => by rw [← hs4]; exact pushCells_keeps _ _ _ _ (Heap.get?_push_of_some _ z))
  -- the suite's pins stand at every turn
  have pinK : ∀ {σ' : L2.St} {H' : Hp} {s' : Shared}, Inv (X.blk s3 H3 scope ce fp) [] σ' H' s' → ∀ p ∈ X.pn, s'.heap.get? p.1 = some p.2 ∧ H' p.1 = none ∧ p.1 ≠ ce.locals ∧ p.1 ∉ frs X.stack ∧ ∀ v, p.2.data ≠ .cell v := by
    intro σ' H' s' J p hp
    obtain ⟨g1, g2, g3, g4, g5⟩ := I3.pin p (List.mem_append_left _ hp)
    have ns : p.1 ∉ frs X.stack := fun z => (List.mem_cons.mp (I3.stkSub p.1 z)).elim g3 g4
    have nf : p.1 ∉ fp := fun z => (f3 p.1 z).1.2.2.2.2.2 p (List.mem_append_left _ hp) rfl
    exact ⟨J.base.keep p.1 p.2 g1 g2 ns nf, J.base.free p.1 p.2 g1 g2 nf, by rw [cL]; exact Nat.ne_of_lt (Heap.lt_size g1), ns, g5⟩
  have stat : ∀ {σ' : L2.St} {H' : Hp} {s' : Shared}, Inv (X.blk s3 H3 scope ce fp) [] σ' H' s' → (∀ b ∈ fp, H' b = none) → ∀ b ∈ fp, FpOk (blkP X s3 H3 scope ce fp) [] H' b := by
    intro σ' H' s' J hn b hb
    refine ⟨hn b hb, (J.ok.exf b hb).1, J.ok.exfs b hb, .inl hb, fun x c z => (J.ok.exf b hb).2 x c z, fun p hp => ?_⟩
    have hp' : p ∈ X.pn := by simpa using hp
    exact (f3 b hb).1.2.2.2.2.2 p (List.mem_append_left _ hp')
  have stat0 : ∀ {σ' : L2.St} {H' : Hp} {s' : Shared}, Inv (X.blk s3 H3 scope ce fp) [] σ' H' s' → (∀ b ∈ fp, H' b = none) → ∀ b ∈ fp, FpOk (X.blk s3 H3 scope ce fp) [] H' b := by
    intro σ' H' s' J hn b hb
    exact ⟨hn b hb, (J.ok.exf b hb).1, J.ok.exfs b hb, .inl hb, fun x c z => (J.ok.exf b hb).2 x c z, fun p hp => absurd (show p ∈ ([] : List (Addr × Obj)) ++ [] from hp) (by simp)⟩
  have hcb : L2H.HotC (blkP X s3 H3 scope ce fp) := hc
  have loop : codeAny (model X.prog X.w) X.A (.compLoop (.ListComp elt [⟨tg, iter, ifs, 0⟩] scope pos) 0 (.ref it) (.ref D) ce) (compPost (model X.prog X.w) X.A X.xe none (EP X pins σ Q) (.ref D) s3.heap.objs.size) s4 := by
    refine compLoop_any (fun n s' => ∃ i H', Inv (X.blk s3 H3 scope ce fp) [] (wipe σ (own.map (·.2))) H' s' ∧ tn i s'.heap ∧ (∀ b ∈ fp, H' b = none) ∧ W i n H') ?_ m0 ⟨0, H3, I4, st4, nfp, w0⟩
    rintro n s5 ⟨i, H5, I5, st5, n5, w5⟩
    rcases turn i n H5 w5 with ⟨stop, qq⟩ | ⟨go, Nx, hNx, step⟩
    · refine thnF (T.done (blkP X s3 H3 scope ce fp) rfl rfl rfl hcb i [] s5 _ H5 (fun _ _ => False) (toP I5 (pinK I5)) (stat I5 n5) st5 stop) (fun r s6 hr => ?_)
      obtain ⟨rfl, I6p⟩ := hr
      have I6 := ofP I6p
      have I7 : Inv X pins σ H5 s6 := I3.call' (ch := fp) I6.os I6.base I6.hok I6.bare (fun b hb => ⟨(f3 b hb).1.2.2.2.1, (f3 b hb).1.2.1, (f3 b hb).1.2.2.2.2.1, (f3 b hb).1.2.2.2.2.2⟩)
      have nC : H5 s3.heap.objs.size = none := by
        have z : H5 ce.locals = none := I6.free
        rw [cL] at z; exact z
      obtain ⟨m, hn, _⟩ := I6.loc
      have hn : s6.heap.Ns ce.locals m := hn
      rw [cL] at hn
      obtain ⟨k0, k1, k2, k3, k4, k5⟩ := I3.fpOk (Nat.le_refl _) nC
      exact ⟨m, hn, fun h'' sb => ⟨.ref D, H5, I7.turned (t' := s6.toks) (fun b o hb z => (sb.2 b hb).trans z) k0 k1 k3 k4 k5, rfl, qq⟩⟩
    · refine thnF (T.item (blkP X s3 H3 scope ce fp) rfl rfl rfl hcb i [] s5 _ H5 (fun _ _ => False) (toP I5 (pinK I5)) (stat I5 n5) st5 go) (fun r s6 hr => ?_)
      obtain ⟨u, rfl, h6⟩ := hr
      refine thnF h6 (fun _ s7 h7 => ?_)
      obtain ⟨x, H7, I7p, r7, y7, st7, n7⟩ := h7
      have I7 := ofP I7p
      have I7' := I7.pinned (stat0 I7 n7) (T.obj _ _ st7)
      refine thnF (pg.run _ s7 _ H7 x u _ I7' r7 (step x H7 y7)) (fun _ s8 h8 => ?_)
      obtain ⟨σ8, H8, I8, hw8, q8⟩ := h8
      refine thnF (pt.run _ s8 σ8 H8 _ I8 q8) (fun b s9 h9 => ?_)
      obtain ⟨H9, I9, q9⟩ := h9
      have fin : ∀ {s' : Shared} {H' : Hp}, Inv (X.blk s3 H3 scope ce fp) ([] ++ pinsAt fp s7.heap) σ8 H' s' → Nx H' →
          ∃ m, m < n ∧ ∃ i H', Inv (X.blk s3 H3 scope ce fp) [] (wipe σ (own.map (·.2))) H' s' ∧ tn i s'.heap ∧ (∀ b ∈ fp, H' b = none) ∧ W i m H' := by
        intro s' H' J nx
        obtain ⟨m', hm, w'⟩ := hNx H' nx
        have pin' : ∀ b ∈ fp, ∀ o, s7.heap.get? b = some o → s'.heap.get? b = some o ∧ H' b = none := fun b hb o z =>
          let y := J.pin (b, o) (List.mem_append_right _ (List.mem_append_right _ (mem_pinsAt hb z)))
          ⟨y.1, y.2.1⟩
        have hl : (wipe σ (own.map (·.2))).length = σ8.length := by rw [← hw8, wipe_length]
        refine ⟨m', hm, i + 1, H', (J.unpinned (pins := [])).weak hl (fun j v z => ?_), T.keep _ _ _ st7 (fun b hb o z => (pin' b hb o z).1), fun b hb => ?_, w'⟩
        · rw [← hw8] at z
          exact (wipe_some z).1
        · obtain ⟨o, z, _⟩ := T.obj _ _ st7 b hb
          exact (pin' b hb o z).2
      cases b with
      | false =>
        simp only [Bool.false_eq_true, if_false] at q9 ⊢
        exact fin I9 q9
      | true =>
        simp only [if_true] at q9 ⊢
        refine thnF (pe.run _ s9 σ8 H9 _ I9 q9) (fun z s10 h10 => ?_)
        obtain ⟨yv, H10, I10, r10, acc, hD10, hz10, nx⟩ := h10
        exact app_ok (X := X.blk s3 H3 scope ce fp) I10 hD10 hz10 r10 (fun s11 I11 => fin I11 nx)
  exact codeAny_compStart_list loop (T.self X.A 0 _ _ _ st4 loop)
end
end Wk
/-! Own errors of one and two fields: their makers' promises, raised; defs that may let one out. -/
namespace Wk
open PySem PySem.Spec PyProof.Rows L2
/-! ### the makers -/
def spI1 (C : Addr) (f : Str) : Sp := fun vs H Q _ => ∃ (a : Addr) (y : V), vs = [.ref a, y] ∧ H a = some (exo a C none) ∧ ∀ dx, H dx = none → dx ≠ a → Q .non (upd (upd H dx (exd dx [(f, y)])) a (exo a C (some dx)))
def spI2 (C : Addr) (f g : Str) : Sp := fun vs H Q _ => ∃ (a : Addr) (y z : V), vs = [.ref a, y, z] ∧ H a = some (exo a C none) ∧
  ∀ dx, H dx = none → dx ≠ a → Q .non (upd (upd (upd H dx (exd dx [(f, y)])) a (exo a C (some dx))) dx (exd dx [(g, z), (f, y)]))
theorem takes0N {X : Cx} : L2N.Takes X (fun _ _ _ _ => False) := fun _ _ x => by
  obtain ⟨_, _, _, _, _, _, _, _, _, _, _, _, _, _, _, _, z⟩ := x
  exact z.elim
section
variable {P : Program} {w : World} {K : PySem.W.Frag} {mg : Str → Option Value} {base : Heap}
theorem okN {x qual : Str} {st : Stmt} {f : Addr} {fd : FuncData} {N ps : List Str} {k : Nat} {sp : Sp} (F : Fun K x qual st f fd) (S : FnScope N ps (defScope st)) (len : ∀ vs H Q E, sp vs H Q E → vs.length = ps.length)
    (hbody : ∀ (cdv : Value) (A : Around) (outer : List Env) (s : Shared) (H : Hp) (vs : List V) (Q : VK) (E : XK), Room k (A.deeper (envOfC qual (defScope st) s.heap.objs.size f cdv)) → sp vs H Q E →
      ∃ t, PSs (cxOf (L2N.CX P w) P w K mg base N qual (defScope st) f cdv A outer s H E) (defBody st) t ∧ t { nx := fun _ H' => Q .non H', rt := Q } (start N vs) H) :
    FnOk P w K mg base (L2N.CX P w) (k + 1) f fd ps sp := by
  obtain ⟨oc, od, kV, doc, pm, an, cdv, ct, osl, rfl, lk, hcd⟩ := F.ex
  exact fn_of lk hcd S len (fun A outer s H vs Q E hr hsp => hbody cdv A outer s H vs Q E hr hsp)
/-- behind the maker: the object is let go, its dict stands -/
theorem mk1 {H : Hp} {a dx C : Addr} {f : Str} {y : V} (na : H a = none) (hn : upd H a (exo a C none) dx = none) (ne : dx ≠ a) :
    H dx = none ∧ upd (upd (upd H a (exo a C none)) dx (exd dx [(f, y)])) a (exo a C (some dx)) a = some (exo a C (some dx)) ∧
    upd (upd (upd H a (exo a C none)) dx (exd dx [(f, y)])) a (exo a C (some dx)) dx = some (exd dx [(f, y)]) ∧
    upd (del (upd (upd (upd H a (exo a C none)) dx (exd dx [(f, y)])) a (exo a C (some dx))) a) dx (.xd [(f, y)]) = upd H dx (.xd [(f, y)]) := by
  refine ⟨by rw [upd_ne ne] at hn; exact hn, upd_same, by rw [upd_ne ne]; exact upd_same, ?_⟩
  funext c
  by_cases hc : c = dx
  · rw [hc, upd_same, upd_same]
  · rw [upd_ne hc, upd_ne hc]
    by_cases ha : c = a
    · rw [ha, del_same, na]
    · rw [del_ne ha, upd_ne ha, upd_ne hc, upd_ne ha]
theorem mk2 {H : Hp} {a dx C : Addr} {f g : Str} {y z : V} (na : H a = none) (hn : upd H a (exo a C none) dx = none) (ne : dx ≠ a) :
    H dx = none ∧ upd (upd (upd (upd H a (exo a C none)) dx (exd dx [(f, y)])) a (exo a C (some dx))) dx (exd dx [(g, z), (f, y)]) a = some (exo a C (some dx)) ∧
    upd (upd (upd (upd H a (exo a C none)) dx (exd dx [(f, y)])) a (exo a C (some dx))) dx (exd dx [(g, z), (f, y)]) dx = some (exd dx [(g, z), (f, y)]) ∧
    upd (del (upd (upd (upd (upd H a (exo a C none)) dx (exd dx [(f, y)])) a (exo a C (some dx))) dx (exd dx [(g, z), (f, y)])) a) dx (.xd [(g, z), (f, y)]) = upd H dx (.xd [(g, z), (f, y)]) := by
  refine ⟨by rw [upd_ne ne] at hn; exact hn, by rw [upd_ne ne.symm]; exact upd_same, upd_same, ?_⟩
  funext c
  by_cases hc : c = dx
  · rw [hc, upd_same, upd_same]
  · rw [upd_ne hc, upd_ne hc]
    by_cases ha : c = a
    · rw [ha, del_same, na]
    · rw [del_ne ha, upd_ne hc, upd_ne ha, upd_ne hc, upd_ne ha]
/-- what the top has written of an error's class (at c, its maker at fi) -/
structure ErrC (K : PySem.W.Frag) (mg : Str → Option Value) (nm : Str) (c fi : Addr) : Prop where
  g : mg nm = some (.ref c)
  ox : OexC K c
  xi : PySem.W.findIn K (.ref c) "__init__" = some (some (.ref fi))
  ti : PySem.W.typeIn K (.ref fi) = some (.type "function")
/-- the class's maker -/
structure ErrI (P : Program) (w : World) (K : PySem.W.Frag) (mg : Str → Option Value) (base : Heap) (fi : Addr) (fd : FuncData) (ps : List Str) (sp : Sp) : Prop where
  F : FnOk P w K mg base CX0 1 fi fd ps sp
  b : Binds K fd ps []
end
end Wk
/-! The errors' makers; _need_bounds and _need_equal_sizes, raising. -/
namespace T77
open PySem PySem.Spec PyProof.Rows L2 Wk
abbrev sTM : Stmt := inClass (top 4) 0
abbrev sTF : Stmt := inClass (top 6) 0
abbrev sUn : Stmt := inClass (top 7) 0
abbrev sEqS : Stmt := top 19
theorem scTM : FnScope ["self", "limit"] ["self", "limit"] (defScope sTM) := ⟨rfl, rfl, rfl, by decide +kernel, rfl, by decide +kernel, by decide +kernel⟩
theorem scTF : FnScope ["self", "pair"] ["self", "pair"] (defScope sTF) := ⟨rfl, rfl, rfl, by decide +kernel, rfl, by decide +kernel, by decide +kernel⟩
theorem scUn : FnScope ["self", "one", "other"] ["self", "one", "other"] (defScope sUn) := ⟨rfl, rfl, rfl, by decide +kernel, rfl, by decide +kernel, by decide +kernel⟩
theorem scES : FnScope ["one", "other"] ["one", "other"] (defScope sEqS) := ⟨rfl, rfl, rfl, by decide +kernel, rfl, by decide +kernel, by decide +kernel⟩
/-- all numbers within the bound, or the error -/
def spBoundsR (K : PySem.W.Frag) (c : Addr) : Sp := fun vs H Q E => ∃ D bs T, vs = [.ref D] ∧ H D = some (.lst bs) ∧ bs.length ≤ sizeLine ∧ Trs K H bs T ∧
  (((∀ p ∈ T, p.2.2 ≤ 1000000000) ∧ ∀ H', Same H H' → Q .non H') ∨ ((∃ p ∈ T, 1000000000 < p.2.2) ∧ ∀ H' d, Same H H' → H' d = none → E (.ref c) (some d) (upd H' d (.xd [("limit", .int 1000000000)]))))
def spEqS (K : PySem.W.Frag) (C c : Addr) : Sp := fun vs H Q E => ∃ w n T w2 n2 T2, vs = [.ref w, .ref w2] ∧ WebAt K C H w n T ∧ WebAt K C H w2 n2 T2 ∧
  ((n = n2 ∧ Q .non H) ∨ (n ≠ n2 ∧ ∀ d, H d = none → E (.ref c) (some d) (upd H d (.xd [("other", .int (n2 : Int)), ("one", .int (n : Int))]))))
section
variable {P : Program} {w : World} {K : PySem.W.Frag} {mg : Str → Option Value} {base : Heap}
theorem ok_iTM {c f : Addr} {fd : FuncData} (F : Fun K "__init__" "TooMany.__init__" sTM f fd) (ox : OexC K c) (no : PySem.W.findIn K (.ref c) "limit" = some none) : FnOk P w K mg base CX0 1 f fd ["self", "limit"] (spI1 c "limit") := by
  refine F.ok scTM (fun vs H Q E h => ?_) (fun cdv A outer s H vs Q E hr h => ?_)
  · obtain ⟨a, y, rfl, _⟩ := h
    rfl
  · obtain ⟨a, y, rfl, ha, q⟩ := h
    refine ⟨_, pss_one (ps_ost (pv 0) (pv 1)), ?_⟩
    exact ⟨_, rfl, _, rfl, a, c, rfl, ox, no, .inl ⟨ha, fun dx n ne => q dx n ne⟩⟩
theorem ok_iTF {c f : Addr} {fd : FuncData} (F : Fun K "__init__" "TooFew.__init__" sTF f fd) (ox : OexC K c) (no : PySem.W.findIn K (.ref c) "pair" = some none) : FnOk P w K mg base CX0 1 f fd ["self", "pair"] (spI1 c "pair") := by
  refine F.ok scTF (fun vs H Q E h => ?_) (fun cdv A outer s H vs Q E hr h => ?_)
  · obtain ⟨a, y, rfl, _⟩ := h
    rfl
  · obtain ⟨a, y, rfl, ha, q⟩ := h
    refine ⟨_, pss_one (ps_ost (pv 0) (pv 1)), ?_⟩
    exact ⟨_, rfl, _, rfl, a, c, rfl, ox, no, .inl ⟨ha, fun dx n ne => q dx n ne⟩⟩
theorem ok_iUn {c f : Addr} {fd : FuncData} (F : Fun K "__init__" "Unequal.__init__" sUn f fd) (ox : OexC K c) (n1 : PySem.W.findIn K (.ref c) "one" = some none) (n2 : PySem.W.findIn K (.ref c) "other" = some none) : FnOk P w K mg base CX0 1 f fd ["self", "one", "other"] (spI2 c "one" "other") := by
  refine F.ok scUn (fun vs H Q E h => ?_) (fun cdv A outer s H vs Q E hr h => ?_)
  · obtain ⟨a, y, z, rfl, _⟩ := h
    rfl
  · obtain ⟨a, y, z, rfl, ha, q⟩ := h
    refine ⟨_, pss_cons (ps_ost (pv 0) (pv 1)) (pss_one (ps_ost (pv 0) (pv 2))), ?_⟩
    refine ⟨_, rfl, _, rfl, a, c, rfl, ox, n1, .inl ⟨ha, fun dx n ne => ?_⟩⟩
    exact ⟨_, rfl, _, rfl, a, c, rfl, ox, n2, .inr ⟨dx, _, upd_same, by rw [upd_ne ne]; exact upd_same, by show 1 ≤ 900; decide, q dx n ne⟩⟩
theorem ok_boundsR {c fi f : Addr} {fd fdi : FuncData} {k : Nat} (F : Fun K "_need_bounds" "_need_bounds" sBounds f fd) (R : ErrC K mg "TooMany" c fi) (RI : ErrI P w K mg base fi fdi ["self", "limit"] (spI1 c "limit")) (ma : mg "any" = none) (mm : ∃ t, mg "MOST_TIES" = some (.int 1000000000 t)) :
    FnOk P w K mg base (L2N.CX P w) (k + 3) f fd ["bundles"] (spBoundsR K c) := by
  obtain ⟨tm, mm⟩ := mm
  refine okN F scBo (fun vs H Q E h => ?_) (fun cdv A outer s H vs Q E hr h => ?_)
  · obtain ⟨D, bs, T, rfl, _⟩ := h
    rfl
  · obtain ⟨a, bs, T, rfl, ha, hlen, hT, q⟩ := h
    refine ⟨_, pss_one (ps_if (pt_val (pe_callB (cr_any rfl) (by rfl) ma (by decide +kernel) (pa_cons
      (pe_lc (own := [("bundle", 1)]) (g := gName 1) (tt := tYes) rfl scBo.nd (pi_list (pv 0)) (blkOk_by (N := ["bundles", "bundle"]) (sc := defScope sBounds) (by decide +kernel))
        (fun _ _ _ _ _ => pg_name (i := 1) scBo.nd rfl (Or.inl rfl)) (fun _ _ _ _ _ => pts_nil) (fun _ _ _ _ _ => pe_cmpR op_gt (pe_ix (r := rIxT K) ix_tup (pv 1) pe_int (fun _ _ => rfl)) (pe_glob (v := .int 1000000000) rfl mm ⟨_, rfl⟩) (nomark _))) pa_nil)))
      (pss_one (L2N.ps_raise rfl (L2N.takes_of rfl rfl rfl rfl) (pmkN_oex R.ox R.xi R.ti RI.F (hr.mono (by omega)) RI.b pass0 rfl R.g (pa_cons (pe_glob (v := .int 1000000000) rfl mm ⟨_, rfl⟩) pa_nil)))) pss_nil), ?_⟩
    refine ⟨.ref a, rfl, a, rfl, ⟨bs, .inl (.inl ha)⟩, fun D nD => ?_⟩
    have haD : a ≠ D := ne_of_none ha nD
    have hbl : bs.length = T.length := hT.length
    refine lc_list (K := K) (a := a) (xs := bs) (fun i H2 => Ext H H2 ∧ H2 D = some (.lst (((T.take i).map fun p => decide ((1000000000 : Int) < p.2.2)).map V.bl))) ?_ (fun i H2 _ h2 => .inl (.inl (h2.1 _ _ ha))) ?_ ?_
    · exact ⟨fun b o z => by rw [upd_ne (ne_of_none z nD)]; exact z, upd_same⟩
    · rintro i x H2 hx ⟨g1, g2⟩
      obtain ⟨p, hp, t, rfl, hS⟩ := hT.get hx
      have i2 : atI [V.int p.1, V.int p.2.1, V.int p.2.2] 2 = some (.int p.2.2) := atI_nat (xs := [V.int p.1, V.int p.2.1, V.int p.2.2]) (j := 2) rfl
      refine ⟨rfl, .ref t, rfl, t, _, 2, _, rfl, rfl, hS.ext g1, i2, p.2.2, 1000000000, rfl, rfl, _, g2, ?_, ?_, ?_⟩
      · rw [List.length_map, List.length_map, List.length_take]
        have := (List.getElem?_eq_some_iff.mp hx).1
        omega
      · intro b o z
        rw [upd_ne (ne_of_none z nD)]
        exact g1 b o z
      · rw [upd_same, List.take_add_one, hp, List.map_append, List.map_append]
        rfl
    · rintro H2 ⟨g1, g2⟩
      rw [hbl, List.take_length] at g2
      refine ⟨D, _, rfl, .inl (.inl g2), _, rfl, ?_⟩
      rcases q with ⟨h1, q⟩ | ⟨⟨p, hp, h1⟩, q⟩
      · have e : (T.map fun p => decide ((1000000000 : Int) < p.2.2)).any id = false := by
          rw [List.any_map, List.any_eq_false]
          intro p hp
          have := h1 p hp
          simp only [Function.comp_apply, id, decide_eq_true_eq]
          omega
        rw [e]
        exact q H2 g1
      · have e : (T.map fun p => decide ((1000000000 : Int) < p.2.2)).any id = true := by
          rw [List.any_map, List.any_eq_true]
          exact ⟨p, hp, decide_eq_true h1⟩
        rw [e]
        refine ⟨(by show 1 ≤ 1000; decide), fun a na => ⟨a, _, rfl, upd_same, fun dx hn ne => ⟨rfl, ?_⟩⟩⟩
        obtain ⟨z0, z1, z2, z3⟩ := mk1 na hn ne
        exact ⟨dx, _, z1, z2, z0, by rw [z3]; exact q H2 dx g1 z0⟩
theorem ok_eqS {C c fi f : Addr} {fd fdi : FuncData} {k : Nat} (F : Fun K "_need_equal_sizes" "_need_equal_sizes" sEqS f fd) (T : TxtW K mg C) (R : ErrC K mg "Unequal" c fi) (RI : ErrI P w K mg base fi fdi ["self", "one", "other"] (spI2 c "one" "other")) :
    FnOk P w K mg base (L2N.CX P w) (k + 3) f fd ["one", "other"] (spEqS K C c) := by
  refine okN F scES (fun vs H Q E h => ?_) (fun cdv A outer s H vs Q E hr h => ?_)
  · obtain ⟨w, n, T, w2, n2, T2, rfl, _⟩ := h
    rfl
  · obtain ⟨w, n, TT, w2, n2, T2, rfl, hW, hW2, q⟩ := h
    obtain ⟨dx, t, ys, d, g, h1, h2, h3, h4, h5⟩ := hW.ex
    obtain ⟨dx2, t2, ys2, d2, g2, k1, k2, k3, k4, k5⟩ := hW2.ex
    refine ⟨_, pss_one (ps_if (pt_cmpR op_ne (pe_fld (pv 0) rfl) (pe_fld (pv 1) rfl) (nomark _))
      (pss_one (L2N.ps_raise rfl (L2N.takes_of rfl rfl rfl rfl) (pmkN_oex R.ox R.xi R.ti RI.F (hr.mono (by omega)) RI.b pass0 rfl R.g (pa_cons (pe_fld (pv 0) rfl) (pa_cons (pe_fld (pv 1) rfl) pa_nil))))) pss_nil), ?_⟩
    refine ⟨.ref w, rfl, w, C, dx, _, _, rfl, h1, T.cl, T.n1, lk5s _ _ _ _ _, .ref w2, rfl, w2, C, dx2, _, _, rfl, k1, T.cl, T.n1, lk5s _ _ _ _ _, rfl, _, rfl, ?_⟩
    rcases q with ⟨rfl, q⟩ | ⟨hne, q⟩
    · rw [decide_eq_true rfl]
      exact q
    · have e : decide (V.int (n : Int) = V.int (n2 : Int)) = false := decide_eq_false fun z => hne (by injection z with z; omega)
      rw [e]
      refine ⟨.ref w, rfl, w, C, dx, _, _, rfl, h1, T.cl, T.n1, lk5s _ _ _ _ _, .ref w2, rfl, w2, C, dx2, _, _, rfl, k1, T.cl, T.n1, lk5s _ _ _ _ _, (by show 2 ≤ 1000; decide), fun a na => ⟨a, _, _, rfl, upd_same, fun dx hn ne => ⟨rfl, ?_⟩⟩⟩
      obtain ⟨z0, z1, z2, z3⟩ := mk2 na hn ne
      exact ⟨dx, _, z1, z2, z0, by rw [z3]; exact q dx z0⟩
end
end T77
/-! The reading of a dict comprehension over any walk. -/
namespace Wk
open PySem PySem.Spec PyProof.Rows L2
section
variable {J : It} {n : Nat} {G : Hp → Prop} {Y : Nat → Hp → V → Hp → Prop}
theorem dc_it (w : Walk J n G Y) {g : TG} {tt : TT} {tk tv : TE} {vs : List Nat} {σ : L2.St} {H1 : Hp} {D : Addr} {Qd : Hp → Prop} (Pv : Nat → Hp → Prop) (h0 : Pv 0 (upd H1 D (.dK []))) (hG : ∀ i H, i ≤ n → Pv i H → G H)
    (hs : ∀ i x H H', i < n → Pv i H → Y i H x H' → g x (wipe σ vs) H' fun σ2 H2 => wipe σ2 vs = wipe σ vs ∧ tt σ2 H2 fun b H3 =>
      if b = true then tk σ2 H3 fun y H4 => tv σ2 H4 fun z H5 => ∃ kvs k, y = kV k ∧ H5 D = some (.dK kvs) ∧ kvs.length < sizeLine ∧ Pv (i + 1) (upd H5 D (.dK (putK kvs k z))) else Pv (i + 1) H3) (hd : ∀ H, Pv n H → Qd H) :
    ∃ W : Nat → Nat → Hp → Prop, (∃ m, W 0 m (upd H1 D (.dK []))) ∧ ∀ i m H, W i m H →
      (J.stop i H ∧ Qd H) ∨ (J.go i H ∧ ∃ Nx : Hp → Prop, (∀ H', Nx H' → ∃ m', m' < m ∧ W (i + 1) m' H') ∧ ∀ x H', J.yld i H x H' → g x (wipe σ vs) H' fun σ2 H2 => wipe σ2 vs = wipe σ vs ∧ tt σ2 H2 fun b H3 =>
        if b = true then tk σ2 H3 fun y H4 => tv σ2 H4 fun z H5 => ∃ kvs k, y = kV k ∧ H5 D = some (.dK kvs) ∧ kvs.length < sizeLine ∧ Nx (upd H5 D (.dK (putK kvs k z))) else Nx H3) := by
  refine ⟨fun i m H => m = n - i ∧ i ≤ n ∧ Pv i H, ⟨n, by simp, Nat.zero_le _, h0⟩, ?_⟩
  rintro i m H ⟨rfl, hi, p⟩
  have q := hG i H hi p
  by_cases hlt : i < n
  · refine .inr ⟨w.goes i H hlt q, Pv (i + 1), fun H' p' => ⟨n - (i + 1), by omega, rfl, hlt, p'⟩, fun x H' y => hs i x H H' hlt p (w.yields i H x H' hlt q y)⟩
  · have e : i = n := by omega
    subst e
    exact .inl ⟨w.stops H q, hd H p⟩
end
end Wk
/-! Rules whose reading names K by a parameter: for what stands within comprehensions. -/
namespace Wk
open PySem PySem.Spec PyProof.Rows L2
theorem pe_fldK {X : Cx} {K : PySem.W.Frag} {e : Expr} {f : Str} {pos : Pos} {ta : TE} (hK : X.K = K) (he : PE X e ta) (hb : attributeBase e f X.env (eval e X.env) = eval e X.env) : PE X (.Attribute e f pos) (tFld K ta f) := by
  subst hK
  exact pe_fld he hb
def rLenK (K : PySem.W.Frag) : List V → Hp → VK → Prop := fun xs H Q => ∃ p ys, xs = [V.ref p] ∧ (SqL K H p ys ∨ SqT K H p ys) ∧ Q (.int ys.length) H
theorem call_lenK {X : Cx} {K : PySem.W.Frag} (h : X.K = K) : CallR X (.builtin "len") (rLenK K) := by
  subst h
  exact call_len_seq
theorem call_isiK {X : Cx} {K : PySem.W.Frag} (h : X.K = K) : CallR X (.builtin "isinstance") (rIsi K) := by
  subst h
  exact call_isi
theorem pe_andTK {X : Cx} {K : PySem.W.Frag} {a b : Expr} {rest : List Expr} {ta tb : TE} {pos : Pos} (hK : X.K = K) (ha : PE X a ta) (hb : PE X (.BoolOp .And (b :: rest) pos) tb) : PE X (.BoolOp .And (a :: b :: rest) pos) (tAndT K ta tb) := by
  subst hK
  exact pe_andT ha hb
end Wk
/-! t.index(i) of a tuple of ints. -/
namespace Wk
open PySem PySem.Spec PyProof.Rows L2
theorem flat_intsV (ys : List Int) : (ys.map V.int).all flatV = true := by
  rw [List.all_map]
  exact List.all_eq_true.mpr fun _ _ => rfl
def rTupIx (K : PySem.W.Frag) : V → List V → Hp → VK → Prop := fun x xs H Q => ∃ p, ∃ ys : List Int, ∃ z j, x = .ref p ∧ xs = [.int z] ∧ SqT K H p (ys.map V.int) ∧ ys[j]? = some z ∧ (∀ m, m < j → ys[m]? ≠ some z) ∧ Q (.int (j : Nat)) H
theorem mt_tup_indexI {X : Cx} {K : PySem.W.Frag} (hK : X.K = K) : MtR X "tuple.index" (rTupIx K) := by
  subst hK
  intro pins s σ H x xs v us Q I rx rs h
  obtain ⟨p, ys, z, j, rfl, rfl, hq, hy, hno, q⟩ := h
  cases rx
  obtain ⟨u, rfl, t, rfl⟩ := vals1 rs
  obtain ⟨its, r, pl, hz⟩ := I.tuple hq
  obtain ⟨⟨cls, dd, dt, sl⟩, ho, hc, n, hd⟩ := pl
  simp only at hc hd
  subst hc
  subst hd
  have hl : its.toArray.size = ys.length := by rw [List.size_toArray, ← r.length, List.length_map]
  have hj : j < its.toArray.size := by rw [hl]; exact (List.getElem?_eq_some_iff.mp hy).1
  have at' : ∀ (m : Nat) (hm : m < its.toArray.size), ∃ y t', ys[m]? = some y ∧ its.toArray[m] = Value.int y t' := fun m hm => by
    have hm' : m < ys.length := by rw [← hl]; exact hm
    obtain ⟨w, hw, t', hw'⟩ := r.get (i := m) (x := .int ys[m]) (by simp [hm'])
    refine ⟨ys[m], t', List.getElem?_eq_getElem hm', ?_⟩
    have e := (List.getElem?_eq_some_iff.mp hw).2
    rw [← hw', ← e]
    simp
  refine call_meets PySem.F.slot_tuple_index ⟨_, ho, rfl⟩ PySem.F.entry_tuple_index (PySem.F.args_tuple_index_2 _ _) (TI.tuple_indexAt p its.toArray n dd sl (.int z t) (eqU (.int z)) j hj ?_ ?_)
    ⟨ho, fun w hw => mem_eqAt (x := .int z) ⟨t, rfl⟩ rfl r (flat_intsV ys) w (by simpa using hw), ⟨.int (j : Nat), H, I.tok _, ⟨_, rfl⟩, q⟩⟩
  · obtain ⟨y, t', h1, h2⟩ := at' j hj
    rw [hy] at h1
    cases h1
    rw [h2]
    show (z == z) = true
    exact beq_self_eq_true z
  · intro m hm hmj
    obtain ⟨y, t', h1, h2⟩ := at' m hm
    rw [h2]
    show (y == z) = false
    refine beq_eq_false_iff_ne.mpr fun e => hno m hmj (by rw [h1, e])
/-- a tuple as an object without a dict of its own -/
structure TupF (H : Hp) (p : Addr) (ys : List V) : Prop where
  ex : ∃ o : Obj, H p = some (.frz o (.tup ys)) ∧ o.dict = none
theorem TupF.sqT {K : PySem.W.Frag} {H : Hp} {p : Addr} {ys : List V} (h : TupF H p ys) : SqT K H p ys := by
  obtain ⟨o, h, _⟩ := h.ex
  exact .inl (.inr ⟨o, h⟩)
theorem TupF.to {H H' : Hp} {p : Addr} {ys : List V} (h : TupF H p ys) (s : ∀ o, H p = some o → H' p = some o) : TupF H' p ys := by
  obtain ⟨o, h, d⟩ := h.ex
  exact ⟨o, s _ h, d⟩
def rTupF (K : PySem.W.Frag) : List V → Hp → VK → Prop := fun xs H Q => ∃ p ys, xs = [.ref p] ∧ SqL K H p ys ∧ ∀ l H', H l = none → (∀ o, H' = upd H l o → TupF H' l ys → Q (.ref l) H')
theorem call_tupleF {X : Cx} : CallR X (.type "tuple") (fun xs H Q => ∃ p ys, xs = [.ref p] ∧ SqL X.K H p ys ∧ ∀ l o, H l = none → TupF (upd H l o) l ys → Q (.ref l) (upd H l o)) := by
  intro pins s σ H xs us Q I r h
  obtain ⟨p, ys, rfl, hq, q⟩ := h
  obtain ⟨u, rfl, rx⟩ := vals1 r
  cases rx
  obtain ⟨its, r', pl, hz⟩ := I.list hq
  have hlen := r'.length
  refine call_tuple_list pl.isList (fun h' kp => ?_) (by simp only [List.size_toArray] <;> omega)
  have I1 : Inv X pins σ H { s with heap := h' } := I.kept (t' := s.toks) kp
  have I2 : Inv X pins σ (upd H h'.objs.size (.frz { cls := .type "tuple", data := .seq its.toArray } (.tup ys))) { s with heap := h'.push { cls := .type "tuple", data := .seq its.toArray } } :=
    I1.laid (t' := s.toks) (fun b o e => Heap.get?_push_of_some _ e) (Nat.le_refl _) (show ObjOk X.prog X.w _ _ _ (.frz _ (.tup ys)) from ⟨Heap.get?_push_size _ rfl, hz, its, r', IsTup.new _ _⟩)
  exact ⟨.ref h'.objs.size, _, I2, rfl, q _ _ (I1.hok.fresh (Nat.le_refl _)) ⟨_, upd_same, rfl⟩⟩
def tTupIx (K : PySem.W.Frag) (to : TE) (ta : TA) : TE := fun σ H Q => to σ H fun x H1 => ∃ p ys, x = .ref p ∧ TupF H1 p ys ∧ ta σ H1 fun xs H2 => rTupIx K x xs H2 Q
theorem pe_tupIx {X : Cx} {K : PySem.W.Frag} {o e : Expr} {to : TE} {ta : TA} {apos cpos : Pos} (hK : X.K = K) (ho : PE X o to) (ha : PA X [e] ta)
    (hbase : attributeBase o "index" X.env (eval o X.env) = eval o X.env := by rfl)
    (hfew : ((backTo cpos (starEach [e] X.env)).all (fun x => !x.1) && (backToKw cpos (keywordEach [] X.env)).all (fun x => x.1.isSome)
      && decide (([e] : List Expr).length + ([] : List Keyword).length + (if ([] : List Keyword).isEmpty then 0 else 1) < 30)) = true := by rfl)
    (hline : (apos.endLine == cpos.line) = true := by rfl) (hs : starEach [e] X.env = (false, eval e X.env) :: starEach [] X.env := by rfl) (hplain : (backTo cpos (starEach [] X.env)).any (·.1) = false := by rfl) :
    PE X (.Call (.Attribute o "index" apos) [e] [] cpos) (tTupIx K to ta) := by
  subst hK
  refine ⟨fun pins s σ H Q I h => ?_⟩
  refine wpAny_Call_method_late hbase hfew hline rfl (thn (ho.run pins s σ H _ I h) fun v s1 ⟨x, H1, I1, r1, p, ys, ex, tf, q1⟩ => ?_)
  subst ex
  cases (show v = Value.ref p from r1)
  obtain ⟨ob, hp, hd⟩ := tf.ex
  obtain ⟨hob, _, its, _, it⟩ := (show ObjOk X.prog X.w H1 s1.heap p (.frz ob (.tup ys)) from I1.hok p _ hp)
  have h1 : s1.TypeIs (.ref p) "tuple" := by
    obtain ⟨o', ho', hc', _⟩ := it
    exact ⟨o', ho', hc'⟩
  refine ⟨"tuple", "tuple.index", PySem.F.plainAttrs_tuple, PySem.F.slot_tuple_index, PySem.F.type_tuple_index, h1, fun a e => by cases e; exact ⟨ob, hob, hd⟩, ?_⟩
  have hA := ha.run cpos pins s1 σ H1 _ I1 q1
  rw [hs] at hA ⊢
  refine Calls.callWith_builtin (by show (false || (backTo cpos (starEach [] X.env)).any (·.1)) = false; rw [hplain] <;> rfl) (Calls.evalArgs_plain ?_)
  exact thn hA fun us s2 ⟨vs, H2, I2, r2, q2⟩ => mt_tup_indexI rfl pins s2 σ H2 (.ref p) vs _ us Q I2 rfl r2 q2
end Wk
/-! +, - of two objects of one own class, and *, by the class's own methods. -/
namespace Wk
open PySem PySem.Spec PyProof.Rows L2
theorem int_mul_obj (a : Int) (t : Tok) (x C dx : Addr) :
    Meets (Builtin.«int.__mul__» ⟨[.int a t, .ref x], []⟩) (fun _ R s => s.heap.get? x = some (PySem.W.instObj C dx) ∧ R (.ok (.ret Value.notImplemented)) s) :=
  .of_wp fun prog w A R s h => by obtain ⟨hp, g, d, tk, os⟩ := s; obtain ⟨hl, h⟩ := h; wp_walk; exact ⟨_, rfl, h⟩
section
variable {X : Cx} {CX : CXT} {k : Nat} {C f : Addr} {fd : FuncData} {ps : List Str} {sp : Sp} {E : XK}
/-- o + y and the like: the method's answer is no NotImplemented -/
def rBinO (C : Addr) (sp : Sp) (E : XK) : R2 := fun x y H Q => ∃ a b dx dy fs gs, x = .ref a ∧ y = .ref b ∧ H a = some (.ins C dx fs) ∧ H b = some (.ins C dy gs) ∧ sp [.ref a, .ref b] H (fun v H' => ∃ c, v = .ref c ∧ Q (.ref c) H') E
theorem op_binO {op : Operator} (F : FnOk X.prog X.w X.K X.mg X.base CX k f fd ps sp) (hr : Room k X.A) (hb : Binds X.K fd ps []) (hx : Passes CX X E) (hc : PySem.W.selfFirst X.K C = true)
    (hs : PySem.W.findIn X.K (.ref C) (PySem.dunder op.info.2) = some (some (.ref f))) (hf : PySem.W.isFn X.K (.ref f) = true) : OpR X (binaryOp op) (rBinO C sp E) := by
  intro pins s σ H x y v u Q I rx ry h
  obtain ⟨a, b, dx, dy, fs, gs, rfl, rfl, ha, hb2, h⟩ := h
  cases (show v = Value.ref a from rx)
  cases (show u = Value.ref b from ry)
  obtain ⟨mA, J, _⟩ := ins_get I.hok ha
  obtain ⟨od, J, _⟩ := J.look
  obtain ⟨mB, J2, _⟩ := ins_get I.hok hb2
  obtain ⟨od2, J2, _⟩ := J2.look
  obtain ⟨m, hF⟩ := I.fr
  refine PySem.W.binop_K hF I.ok.mod.kin J J2.type hc hs hf (wpAny_mono (dun_call F rfl hr hb hx I (.cons (show RelV (.ref a) (.ref a) from rfl) (.cons (show RelV (.ref b) (.ref b) from rfl) .nil)) h) (fun r s' z => ?_) fun _ _ e => e)
  obtain ⟨z, H', I', rz, c, ez, q⟩ := z
  subst ez
  cases (show r = Value.ref c from rz)
  exact ⟨.ref c, H', I', rfl, q⟩
/-- o * k -/
def rBinI (C : Addr) (sp : Sp) (E : XK) : R2 := fun x y H Q => ∃ a i dx fs, x = .ref a ∧ y = .int i ∧ H a = some (.ins C dx fs) ∧ sp [.ref a, .int i] H (fun v H' => ∃ c, v = .ref c ∧ Q (.ref c) H') E
theorem op_binI {op : Operator} {fo ro rc : Option Value} (F : FnOk X.prog X.w X.K X.mg X.base CX k f fd ps sp) (hr : Room k X.A) (hb : Binds X.K fd ps []) (hx : Passes CX X E) (hc : PySem.W.selfFirst X.K C = true)
    (hs : PySem.W.findIn X.K (.ref C) (PySem.dunder op.info.2) = some (some (.ref f))) (hf : PySem.W.isFn X.K (.ref f) = true) (hr' : PySem.W.findIn X.K (.ref C) (dunderR op.info.2) = some rc) (hp : rc = none ∨ ∃ g : Addr, rc = some (.ref g))
    (h1 : PySem.W.findIn X.K (.type "int") (PySem.dunder op.info.2) = some fo) (h2 : PySem.W.findIn X.K (.type "int") (dunderR op.info.2) = some ro) (hsub : PySem.W.subIn X.K (.type "int") (.ref C) = some false) : OpR X (binaryOp op) (rBinI C sp E) := by
  intro pins s σ H x y v u Q I rx ry h
  obtain ⟨a, i, dx, fs, rfl, rfl, ha, h⟩ := h
  cases (show v = Value.ref a from rx)
  obtain ⟨t, rfl⟩ := (show ∃ t, u = Value.int i t from ry)
  obtain ⟨mA, J, _⟩ := ins_get I.hok ha
  obtain ⟨od, J, _⟩ := J.look
  obtain ⟨m, hF⟩ := I.fr
  refine PySem.W.ksp_binT (T := "int") hF I.ok.mod.kin J rfl hc hs hf hr' hp h1 h2 hsub (wpAny_mono (dun_call F rfl hr hb hx I (.cons (show RelV (.ref a) (.ref a) from rfl) (.cons ry .nil)) h) (fun r s' z => ?_) fun _ _ e => e)
  obtain ⟨z, H', I', rz, c, ez, q⟩ := z
  subst ez
  cases (show r = Value.ref c from rz)
  exact ⟨.ref c, H', I', rfl, q⟩
/-- k * o: the int declines, then the class's own method -/
theorem rmul_own {prog : Program} {w : World} {A : Around} {E : Value → Shared → Prop} {s : Shared} {K : PySem.W.Frag} {x C f dx : Addr} {od : Option Obj} {i : Int} {t : Tok} {Q : Value → Shared → Prop}
    (Xk : K.In s.heap) (I : PySem.W.InstAt s.heap x (PySem.W.instObj C dx) C od) (hc : PySem.W.selfFirst K C = true) (hm : PySem.W.findIn K (.ref C) "__mul__" = some (some (.ref f))) {g : Addr}
    (hs : PySem.W.findIn K (.ref C) "__rmul__" = some (some (.ref g))) (hf : PySem.W.isFn K (.ref g) = true) (hsub : PySem.W.subIn K (.ref C) (.type "int") = some false)
    (h : wpAny (model prog w) A (call (.ref g) [.ref x, .int i t]) (PySem.W.CmpBack Q) E s) : wpAny (model prog w) A (binaryOp .Mult (.int i t) (.ref x)) Q E s := by
  obtain ⟨cd, rest, hcd, hmm⟩ := PySem.W.ksp_first hc
  have one := PySem.W.ksp_try Xk I hs hf h
  have hat := I.at_
  obtain ⟨hh, gg, d, tt, os⟩ := s
  have L1 : PySem.W.Looks (model prog w) hh (typeOf (.ref x)) (.ref C) := I.type
  have L2 : PySem.W.Looks (model prog w) hh (typeOf (.int i t)) (.type "int") := PySem.W.Looks.of_pure rfl
  have L3 : PySem.W.Looks (model prog w) hh (fillsNumberSlot (.ref C) "mul") true := PySem.W.fills_K Xk hcd hmm hm
  have L4 : PySem.W.Looks (model prog w) hh (fillsNumberSlot (.type "int") "mul") true := PySem.W.Looks.of_pure F.fills_int_mul
  have L5 : PySem.W.Looks (model prog w) hh (isSubtype (.ref C) (.type "int")) false := PySem.W.looks_subIn Xk hsub
  have L7 : PySem.W.Looks (model prog w) hh (numberSlotInPython (.type "int") "mul") false := PySem.W.Looks.of_pure rfl
  have hne : (Value.type "int" == Value.ref C) = false := Bool.eq_false_iff.mpr fun q => by cases beq_iff_eq.mp q
  show wpAny _ _ (binaryOp .Mult (.int i t) (.ref x)) _ _ _
  unfold binaryOp
  refine wpAny_holding (wpAny_bind ?_)
  unfold binaryOp1
  refine wpAny_bind (L2.at (wpAny_bind (L1.at (wpAny_bind (L4.at ?_)))))
  simp only [hne, Bool.false_eq_true, if_false]
  ksp_lk
  refine wpAny_tryMethod_declines (typeIs_int _ i t) F.slot_int_mul (call_meets F.slot_int_mul (typeIs_int _ i t) F.entry_int_mul (F.args_int_mul_2 _ _) (int_mul_obj i t x C dx) ⟨hat, rfl, ?_⟩)
  ksp_lk
  refine wpAny_mono one (fun r s' hr' => ?_) fun _ _ e => e
  obtain ⟨v, rfl, hq⟩ := hr'
  ksp_lk
  exact hq
end
section
variable {X : Cx} {CX : CXT} {k : Nat} {C f : Addr} {fd : FuncData} {ps : List Str} {sp : Sp} {E : L2.St → XK}
/-- a dunder called where what may fly is told by the state -/
theorem dun_callS {A : Around} {pins : List (Addr × Obj)} {σ : L2.St} {H : Hp} {s : Shared} {vs : List V} {us : List Value} {Q : VK} {E : XK} (F : FnOk X.prog X.w X.K X.mg X.base CX k f fd ps sp)
    (hA : A.frames = X.A.frames) (hr : Room k A) (hb : Binds X.K fd ps []) (hx : PassesAt CX X σ E) (I : Inv X pins σ H s) (rv : Vals vs us) (h : sp vs H Q E) :
    wpAny (model X.prog X.w) A (call (.ref f) us) (EP X pins σ Q) X.xe s := by
  have e0 : Env0 X.prog X.w X.K X.mg X.base A X.stack s H := by
    have e := I.env0
    exact ⟨by rw [hA]; exact e.frames, e.mod, e.bs, e.bsz, e.funs, e.frf, e.hok, e.bare⟩
  have hl := F.len _ _ _ _ h
  refine wpAny_call (codeAny_mono (F.run A X.stack s H ⟨us, []⟩ us vs _ E hr e0 (by
    have := hb s us I.kIn (by rw [List.append_nil, ← rv.length]; exact hl)
    simpa using this) rv h) fun r s' hq => ?_)
  cases r with
  | error e => exact hx pins H s e s' I hq
  | ok fl =>
    cases fl with
    | ret w =>
      obtain ⟨z, H', I', rz, q⟩ := I.after hq
      exact ⟨z, H', I', rz, q⟩
    | next => exact False.elim hq
    | brk => exact False.elim hq
    | cont => exact False.elim hq
theorem pe_binO {op : Operator} {a b : Expr} {ta tb : TE} {pos : Pos} (F : FnOk X.prog X.w X.K X.mg X.base CX k f fd ps sp) (hr : Room k X.A) (hb : Binds X.K fd ps []) (hx : ∀ σ, PassesAt CX X σ (E σ)) (hc : PySem.W.selfFirst X.K C = true)
    (hs : PySem.W.findIn X.K (.ref C) (PySem.dunder op.info.2) = some (some (.ref f))) (hf : PySem.W.isFn X.K (.ref f) = true) (ha : PE X a ta) (hb' : PE X b tb) : PE X (.BinOp a op b pos) (fun σ H Q => tOp (rBinO C sp (E σ)) ta tb σ H Q) := by
  refine ⟨fun pins s σ H Q I h => ?_⟩
  refine wpAny_BinOp (binT ha hb' I h fun v u s2 x y H2 I2 rx ry h => ?_)
  obtain ⟨a, b, dx, dy, fs, gs, rfl, rfl, ha, hb2, h⟩ := h
  cases (show v = Value.ref a from rx)
  cases (show u = Value.ref b from ry)
  obtain ⟨mA, J, _⟩ := ins_get I2.hok ha
  obtain ⟨od, J, _⟩ := J.look
  obtain ⟨mB, J2, _⟩ := ins_get I2.hok hb2
  obtain ⟨od2, J2, _⟩ := J2.look
  obtain ⟨m, hF⟩ := I2.fr
  refine PySem.W.binop_K hF I2.ok.mod.kin J J2.type hc hs hf (wpAny_mono (dun_callS F rfl hr hb (hx σ) I2 (.cons (show RelV (.ref a) (.ref a) from rfl) (.cons (show RelV (.ref b) (.ref b) from rfl) .nil)) h) (fun r s' z => ?_) fun _ _ e => e)
  obtain ⟨z, H', I', rz, c, ez, q⟩ := z
  subst ez
  cases (show r = Value.ref c from rz)
  exact ⟨.ref c, H', I', rfl, q⟩
theorem pe_binI {op : Operator} {fo ro rc : Option Value} {a b : Expr} {ta tb : TE} {pos : Pos} (F : FnOk X.prog X.w X.K X.mg X.base CX k f fd ps sp) (hr : Room k X.A) (hb : Binds X.K fd ps []) (hx : ∀ σ, PassesAt CX X σ (E σ)) (hc : PySem.W.selfFirst X.K C = true)
    (hs : PySem.W.findIn X.K (.ref C) (PySem.dunder op.info.2) = some (some (.ref f))) (hf : PySem.W.isFn X.K (.ref f) = true) (hr' : PySem.W.findIn X.K (.ref C) (dunderR op.info.2) = some rc) (hp : rc = none ∨ ∃ g : Addr, rc = some (.ref g))
    (h1 : PySem.W.findIn X.K (.type "int") (PySem.dunder op.info.2) = some fo) (h2 : PySem.W.findIn X.K (.type "int") (dunderR op.info.2) = some ro) (hsub : PySem.W.subIn X.K (.type "int") (.ref C) = some false) (ha : PE X a ta) (hb' : PE X b tb) :
    PE X (.BinOp a op b pos) (fun σ H Q => tOp (rBinI C sp (E σ)) ta tb σ H Q) := by
  refine ⟨fun pins s σ H Q I h => ?_⟩
  refine wpAny_BinOp (binT ha hb' I h fun v u s2 x y H2 I2 rx ry h => ?_)
  obtain ⟨a, i, dx, fs, rfl, rfl, ha, h⟩ := h
  cases (show v = Value.ref a from rx)
  obtain ⟨t, rfl⟩ := (show ∃ t, u = Value.int i t from ry)
  obtain ⟨mA, J, _⟩ := ins_get I2.hok ha
  obtain ⟨od, J, _⟩ := J.look
  obtain ⟨m, hF⟩ := I2.fr
  refine PySem.W.ksp_binT (T := "int") hF I2.ok.mod.kin J rfl hc hs hf hr' hp h1 h2 hsub (wpAny_mono (dun_callS F rfl hr hb (hx σ) I2 (.cons (show RelV (.ref a) (.ref a) from rfl) (.cons ry .nil)) h) (fun r s' z => ?_) fun _ _ e => e)
  obtain ⟨z, H', I', rz, c, ez, q⟩ := z
  subst ez
  cases (show r = Value.ref c from rz)
  exact ⟨.ref c, H', I', rfl, q⟩
/-- k * o -/
def rBinR (C : Addr) (sp : Sp) (E : XK) : R2 := fun x y H Q => ∃ a i dx fs, x = .int i ∧ y = .ref a ∧ H a = some (.ins C dx fs) ∧ sp [.ref a, .int i] H (fun v H' => ∃ c, v = .ref c ∧ Q (.ref c) H') E
theorem pe_binR {g : Addr} {a b : Expr} {ta tb : TE} {pos : Pos} (F : FnOk X.prog X.w X.K X.mg X.base CX k f fd ps sp) (hr : Room k X.A) (hb : Binds X.K fd ps []) (hx : ∀ σ, PassesAt CX X σ (E σ)) (hc : PySem.W.selfFirst X.K C = true)
    (hm : PySem.W.findIn X.K (.ref C) "__mul__" = some (some (.ref g))) (hs : PySem.W.findIn X.K (.ref C) "__rmul__" = some (some (.ref f))) (hf : PySem.W.isFn X.K (.ref f) = true) (hsub : PySem.W.subIn X.K (.ref C) (.type "int") = some false)
    (ha : PE X a ta) (hb' : PE X b tb) : PE X (.BinOp a .Mult b pos) (fun σ H Q => tOp (rBinR C sp (E σ)) ta tb σ H Q) := by
  refine ⟨fun pins s σ H Q I h => ?_⟩
  refine wpAny_BinOp (binT ha hb' I h fun v u s2 x y H2 I2 rx ry h => ?_)
  obtain ⟨a, i, dx, fs, rfl, rfl, ha, h⟩ := h
  cases (show u = Value.ref a from ry)
  obtain ⟨t, rfl⟩ := (show ∃ t, v = Value.int i t from rx)
  obtain ⟨mA, J, _⟩ := ins_get I2.hok ha
  obtain ⟨od, J, _⟩ := J.look
  refine rmul_own I2.kIn J hc hm hs hf hsub (wpAny_mono (dun_callS F rfl hr hb (hx σ) I2 (.cons (show RelV (.ref a) (.ref a) from rfl) (.cons rx .nil)) h) (fun r s' z => ?_) fun _ _ e => e)
  obtain ⟨z, H', I', rz, c, ez, q⟩ := z
  subst ez
  cases (show r = Value.ref c from rz)
  exact ⟨.ref c, H', I', rfl, q⟩
end
end Wk
/-! An own class made within a try-suite: what its maker lets out is caught there. -/
namespace Wk
open PySem PySem.Spec PyProof.Rows L2
section
variable {X : Cx} {CX : CXT} {k : Nat} {f C : Addr} {fd : FuncData} {ps : List Str} {sp : Sp} {E : L2.St → XK} {x : Str} {p pos : Pos} {e : Expr} {es : List Expr} {t : TA}
/-- C(e, ..), at the slots σ -/
def tMakeS (C : Addr) (sp : Sp) (E : L2.St → XK) (t : TA) : TE := fun σ H Q => t σ H fun vs H1 => ∀ x dx, H1 x = none → H1 dx = none → dx ≠ x →
  sp (.ref x :: vs) (upd (upd H1 dx (.own x)) x (.ins C dx [])) (fun v H2 => v = .non ∧ Q (.ref x) H2) (E σ)
theorem makeS_run {pins : List (Addr × Obj)} {σ : L2.St} {H : Hp} {s : Shared} {Q : VK} {us : List Value} {vs : List V} {Y : XK} (M : Mk X.K C f) (F : FnOk X.prog X.w X.K X.mg X.base CX k f fd ps sp) (hr : Room (k + 1) X.A) (hb : Binds X.K fd ps []) (hx : PassesAt CX X σ Y)
    (I : Inv X pins σ H s) (r : Vals vs us) (h : ∀ x dx, H x = none → H dx = none → dx ≠ x → sp (.ref x :: vs) (upd (upd H dx (.own x)) x (.ins C dx [])) (fun v H2 => v = .non ∧ Q (.ref x) H2) Y) :
    wpAny (model X.prog X.w) X.A (call (.ref C) us) (EP X pins σ Q) X.xe s := by
  have q0 := h _ _ (I.hok.fresh (Nat.le_succ s.heap.objs.size)) (I.hok.fresh (Nat.le_refl s.heap.objs.size)) (Nat.ne_of_lt (Nat.lt_succ_self _))
  have J := Inv.made (C := C) I
  have rv : Vals (V.ref (s.heap.objs.size + 1) :: vs) (Value.ref (s.heap.objs.size + 1) :: us) := .cons rfl r
  have b := hb _ (Value.ref (s.heap.objs.size + 1) :: us) J.kIn (by rw [List.append_nil, ← rv.length]; exact F.len _ _ _ _ q0)
  rw [List.append_nil] at b
  refine wpAny_call (make_map (f := f) I.kIn M.makes M.init (beq_iff_eq.mp M.fn) (codeAny_mono (F.run _ X.stack _ _ _ _ _ _ Y (hr.make C us []) (J.env0.make C us []) b rv q0) ?_))
  rintro (e | fl) s' hq
  · exact hx pins _ _ e s' J hq
  · cases fl with
    | ret u =>
      obtain ⟨v, H', J', rv', ev, q⟩ := J.after hq
      subst ev
      exact ⟨rv', V.ref (s.heap.objs.size + 1), H', J', rfl, q⟩
    | next => exact False.elim hq
    | brk => exact False.elim hq
    | cont => exact False.elim hq
theorem pe_makeS (M : Mk X.K C f) (F : FnOk X.prog X.w X.K X.mg X.base CX k f fd ps sp) (hr : Room (k + 1) X.A) (hg : Gl X x) (hm : X.mg x = some (.ref C)) (hb : Binds X.K fd ps []) (hx : ∀ σ, PassesAt CX X σ (E σ))
    (ha : PA X (e :: es) t) (hdb : (x == ("__debug__" : Str)) = false := by decide) (he : starEach (e :: es) X.env = (false, eval e X.env) :: starEach es X.env := by rfl) (hpl : (backTo pos (starEach es X.env)).any (·.1) = false := by rfl) :
    PE X (.Call (.Name x p) (e :: es) [] pos) (tMakeS C sp E t) :=
  ⟨fun pins s σ H Q I h => wpAny_Call_Name_kw (ld_glob I hg hm (PySem.W.callWith_K (h₀ := X.base) I.ok.mod.kin M.kp (thn (ha.run pos pins s σ H _ I h) fun us s1 ⟨vs, H1, I1, r, q⟩ => ⟨I1.kIn, makeS_run M F hr hb (hx σ) I1 r q⟩) he hpl) hdb)⟩
end
end Wk
/-! A call with keywords within a try's body: what is raised is wished for at the caller's slots. -/
namespace Wk
open PySem PySem.Spec PyProof.Rows L2
/-- the reading: the values in their places, the keywords' values, then the promise -/
def tKwS (n m : Nat) (sp : Sp) (put : List V → List V → List V) (E : L2.St → XK) (ta tb : TA) : TE := fun σ H Q =>
  ta σ H fun xs H1 => tb σ H1 fun ys H2 => xs.length = n ∧ ys.length = m ∧ sp (put xs ys) H2 Q (E σ)
section
variable {X : Cx} {cx : CXT} {lv n : Nat} {fa : Addr} {dd : FuncData} {pn names : List Str} {pr : Sp} {Er : L2.St → XK} {nm : Str} {q1 q2 : Pos} {a0 : Expr} {as : List Expr} {kw : List Keyword} {ta tb : TA} {gg : List Value → List Value → List Value} {put : List V → List V → List V}
theorem pe_kwS (F : FnOk X.prog X.w X.K X.mg X.base cx lv fa dd pn pr) (room : Room lv X.A) (gl : Gl X nm) (at' : X.mg nm = some (.ref fa)) (keep : PySem.W.keepIn X.K (.ref fa) = true) (bn : KBn X.K dd pn n names gg put)
    (out : ∀ σ, PassesAt cx X σ (Er σ)) (pa : PA X (a0 :: as) ta) (pk : PK X kw tb) (named : (backToKw q2 (keywordEach kw X.env)).all (·.1.isSome) = true := by rfl)
    (which : (backToKw q2 (keywordEach kw X.env)).filterMap (·.1) = names := by rfl) (nodebug : (nm == ("__debug__" : Str)) = false := by decide)
    (first : starEach (a0 :: as) X.env = (false, eval a0 X.env) :: starEach as X.env := by rfl) (nostar : ((backTo q2 (starEach (a0 :: as) X.env)).any (·.1) || (backToKw q2 (keywordEach kw X.env)).any (·.1.isNone)) = false := by rfl) :
    PE X (.Call (.Name nm q1) (a0 :: as) kw q2) (tKwS n names.length pr put Er ta tb) := by
  constructor
  intro pins s σ H Q I h
  apply wpAny_Call_Name_kw
  refine ld_glob I gl at' ?_ nodebug
  apply PySem.W.callWith_KW (h₀ := X.base) I.ok.mod.kin keep named _ nostar first
  refine thn (pa.run q2 pins s σ H _ I h) ?_
  rintro us s1 ⟨xs, H1, I1, r1, h1⟩
  refine thn (pk.run q2 pins s1 σ H1 _ I1 h1) ?_
  rintro vs s2 ⟨ys, H2, I2, r2, l1, l2, h2⟩
  refine ⟨I2.kIn, ?_⟩
  rw [which]
  have both := bn.rel r1 r2
  have bt := bn.to s2 us vs I2.kIn (r1.length.symm.trans l1) (r2.length.symm.trans l2)
  refine wpAny_call (codeAny_mono (F.run X.A X.stack s2 H2 ⟨us, names.zip vs⟩ (gg us vs) (put xs ys) Q (Er σ) room I2.env0 bt both h2) ?_)
  rintro (e | fl) s3 hq
  · exact out σ pins H2 s2 e s3 I2 hq
  · match fl, hq with
    | .ret u, hq => exact I2.after hq
end
end Wk
/-! dict(d): a copy of a dict whose keys are tuples, no two of one hash. -/
namespace Wk
open PySem PySem.Spec PyProof.Rows L2
section
variable {prog : Program} {w : World} {K : Type} [DecidableEq K] {knd : HeapKind prog w K} {A : Around} {E : Value → Shared → Prop} {s : Shared}
theorem make_dictH {o : Addr} {more : List (K × Addr × Value)} {Q : Value → Shared → Prop} (hu : ∀ B : Around, B.units ≤ A.units + 2 → knd.room B) (hoS : (o == sysModules) = false) (hdo : s.heap.objs.size ≠ o)
    (ho : (s.heap.push { cls := .type "dict", data := .dict #[] }).DictOfH knd o more) (hsz : more.length ≤ sizeLine) (hty : ∀ x ∈ more, ({ s with heap := s.heap.push { cls := .type "dict", data := .dict #[] } } : Shared).TypeIs (.ref x.2.1) "tuple")
    (hap : (more.map fun x => knd.hash x.1).Nodup)
    (h : ∀ h', h'.DictOfH knd s.heap.objs.size more → Heap.SameBut s.heap.objs.size (s.heap.push { cls := .type "dict", data := .dict #[] }) h' → Q (.ref s.heap.objs.size) { s with heap := h' }) :
    wpAny (model prog w) A (call (.type "dict") [.ref o]) Q E s := by
  refine callType_codes (Q₁ := fun obj s₁ => obj = .ref s.heap.objs.size ∧ s₁ = { s with heap := s.heap.push { cls := .type "dict", data := .dict #[] } }) F.kt_called_dict (F.kt_typeCall_dict_1 _) F.entry_dict_init (kt_code_dict_new _ ⟨rfl, rfl⟩) ?_
  rintro obj s₁ ⟨rfl, rfl⟩
  have hnew : (s.heap.push { cls := .type "dict", data := .dict #[] }).DictOfH knd s.heap.objs.size [] := Heap.DictOfH.new s.heap
  have hn : (more.map (·.1)).Nodup := ho.nodup
  have hT : ({ s with heap := s.heap.push { cls := .type "dict", data := .dict #[] } } : Shared).TypeIs (.ref s.heap.objs.size) "dict" := Heap.DictOfH.typeIs (s := { s with heap := s.heap.push { cls := .type "dict", data := .dict #[] } }) hnew
  have hO : ({ s with heap := s.heap.push { cls := .type "dict", data := .dict #[] } } : Shared).TypeIs (.ref o) "dict" := Heap.DictOfH.typeIs (s := { s with heap := s.heap.push { cls := .type "dict", data := .dict #[] } }) ho
  refine ⟨hT, F.args_dict_init_2 _ _, ?_⟩
  unfold Builtin.«dict.__init__»
  refine wpAny_bind ?_
  unfold Builtin.Dict.selfAndRest
  refine wpAny_bind (wpAny_notOrdered_dict hT ?_)
  show wpAny _ _ (pure (s.heap.objs.size, [Value.ref o])) _ _ _
  refine wpAny_pure ?_
  show wpAny _ _ (Builtin.Dict.updateFrom "dict.__init__" s.heap.objs.size (.ref o) [] .none) _ _ _
  unfold Builtin.Dict.updateFrom
  refine wpAny_bind (wpAny_typeOf hO ?_)
  rw [if_neg (by decide)]
  refine wpAny_bind ?_
  unfold Builtin.Dict.merge
  refine wpAny_bind ?_
  unfold Builtin.Dict.readDirectly
  refine wpAny_bind (wpAny_isInstance hO isSubtype_dict_dict ?_)
  simp only [Bool.not_true, Bool.false_eq_true, if_false]
  refine wpAny_bind (wpAny_specialOf hO F.slot_dict_iter.lookup (wpAny_pure ?_))
  simp only [beq_self_eq_true, if_true]
  refine wpAny_bind (wpAny_pure ?_)
  refine wpAny_mergeDict_heap (hsz := by simpa using hsz) (hu _ ?_) hdo hoS hnew ho (.inr ⟨hty, hap⟩) fun h' hd' _ hs' => ?_
  · exact Nat.le_refl _
  show wpAny _ _ (Builtin.Dict.addKeywords s.heap.objs.size [] >>= _) _ _ _
  rw [storedAllH_nil_of_nodup more hn] at hd'
  exact wpAny_bind (wpAny_pure (wpAny_pure ⟨rfl, h h' hd' hs'⟩))
end
/-- what dict(d) asks and gives -/
def rDictD (P : Program) (w : World) : List V → Hp → VK → Prop := fun xs H Q => ∃ (a : Addr) (kvs : List (List Key × V)), xs = [.ref a] ∧ H a = some (.dT kvs) ∧ (kvs.map fun kv => tupleKeyHash (mixKind P w) kv.1).Nodup ∧ ∀ p, H p = none → Q (.ref p) (upd H p (.dT kvs))
theorem call_dictDT {X : Cx} (hu : X.A.units + 64 < cLine) : CallR X (.type "dict") (rDictD X.prog X.w) := by
  intro pins s σ H xs us Q I r q
  obtain ⟨a, kvs, rfl, ha, hap, q⟩ := q
  obtain ⟨u, rfl, rx⟩ := r.one
  cases rx
  have I0 : Inv X pins σ H { s with heap := s.heap.push { cls := .type "dict", data := .dict #[] } } := I.kept (t' := s.toks) fun b o e => Heap.get?_push_of_some _ e
  obtain ⟨z, hoS, xs, r1, ho⟩ := dt_of I0.hok ha
  have hal : a < s.heap.objs.size := (I.hok a _ ha).lt
  have hk : xs.map (·.1) = kvs.map (·.1) := by
    clear ho hap q z ha
    induction r1 with
    | nil => rfl
    | cons h t ih => rw [List.map_cons, List.map_cons, ih, h.1]
  have hl : xs.length = kvs.length := by have := congrArg List.length hk; rwa [List.length_map, List.length_map] at this
  have hm : (s.heap.objs.size == sysModules) = false := beq_eq_false_iff_ne.mpr (Nat.ne_of_gt I.big)
  refine make_dictH (knd := tupleKind (mixKind X.prog X.w)) (more := xs) (fun B hB => ?_) hoS (Ne.symm (Nat.ne_of_lt hal)) ho (by rw [hl]; exact z) (fun x hx => ?_) ?_ fun h' hd hs => ?_
  · show B.units < cLine
    omega
  · obtain ⟨_, _, _, _, _, _, _, his, _⟩ := ho
    obtain ⟨o, its, n, h1, h2, _⟩ := his x hx
    exact ⟨o, h1, h2⟩
  · have e : (xs.map fun x => (tupleKind (mixKind X.prog X.w)).hash x.1) = (xs.map (·.1)).map (tupleKeyHash (mixKind X.prog X.w)) := by rw [List.map_map]; rfl
    rw [e, hk, List.map_map]
    exact hap
  · obtain ⟨o, es, ep, g1, g2, g3, g4, _, g6⟩ := hd
    have hf : H s.heap.objs.size = none := I.hok.fresh (Nat.le_refl _)
    exact ⟨.ref s.heap.objs.size, upd H s.heap.objs.size (.dT kvs), I.laid (t' := s.toks) (fun b u e => (hs.2 b (Nat.ne_of_lt (Heap.lt_size e))).trans (Heap.get?_push_of_some _ e)) (Nat.le_refl _)
      (show ObjOk X.prog X.w _ _ _ (.dT kvs) from ⟨z, hm, xs, r1.keeps (fun b ys e => by rw [upd_ne (ne_of_none e hf)]; exact e), o, es, ep, g1, g2, g3, g4, g6⟩), rfl, q _ hf⟩
/-! ### hashes of pairs of small numbers -/
def hp (p : Nat × Nat) : Int := reduceHash (Builtin.Tuple.tupleHashOf [hashInt (p.1 : Int), hashInt (p.2 : Int)])
def res (p : Nat × Nat) : Nat := (hp p % 65536).toNat
def seenAll : List (Nat × Nat) → Nat → Bool
  | [], _ => true
  | p :: l, m => !(m.testBit (res p)) && seenAll l (m ||| (1 <<< res p))
def pairs60 : List (Nat × Nat) := (List.range 60).flatMap fun v => (List.range v).map fun u => (u, v)
theorem seen_pairs : seenAll pairs60 0 = true := by decide +kernel
theorem bit_or {m i j : Nat} (h : m.testBit i = true ∨ i = j) : (m ||| (1 <<< j)).testBit i = true := by
  rw [Nat.testBit_or, Bool.or_eq_true]
  rcases h with h | rfl
  · exact .inl h
  · right
    rw [Nat.testBit_shiftLeft]
    simp
theorem seen_ok : ∀ {l : List (Nat × Nat)} {m : Nat}, seenAll l m = true → (∀ p ∈ l, m.testBit (res p) = false) ∧ l.Pairwise fun p q => res p ≠ res q
  | [], _, _ => ⟨fun p h => (by cases h), .nil⟩
  | p :: l, m, h => by
    unfold seenAll at h
    obtain ⟨h1, h2⟩ := Bool.and_eq_true_iff.mp h
    have h1 : m.testBit (res p) = false := by simpa using h1
    obtain ⟨i1, i2⟩ := seen_ok h2
    refine ⟨fun q hq => ?_, List.pairwise_cons.mpr ⟨fun q hq e => ?_, i2⟩⟩
    · rcases List.mem_cons.mp hq with rfl | hq
      · exact h1
      · cases hb : m.testBit (res q) with
        | false => rfl
        | true =>
          have := i1 q hq
          rw [bit_or (.inl hb)] at this
          cases this
    · have := i1 q hq
      rw [bit_or (.inr e.symm)] at this
      cases this
theorem pairwise_mem {α : Type} {R : α → α → Prop} : ∀ {l : List α}, l.Pairwise R → ∀ {p q : α}, p ∈ l → q ∈ l → p = q ∨ R p q ∨ R q p
  | a :: l, h, p, q, hp, hq => by
    obtain ⟨h1, h2⟩ := List.pairwise_cons.mp h
    rcases List.mem_cons.mp hp with e | hp'
    · rcases List.mem_cons.mp hq with e' | hq'
      · exact .inl (e.trans e'.symm)
      · rw [e]; exact .inr (.inl (h1 q hq'))
    · rcases List.mem_cons.mp hq with e' | hq'
      · rw [e']; exact .inr (.inr (h1 p hp'))
      · exact pairwise_mem h2 hp' hq'
theorem in_pairs {a b : Nat} (h1 : a < b) (h2 : b < 60) : (a, b) ∈ pairs60 := List.mem_flatMap.mpr ⟨b, List.mem_range.mpr h2, List.mem_map.mpr ⟨a, List.mem_range.mpr h1, rfl⟩⟩
/-- no two pairs of places of one hash -/
theorem hash_pair {P : Program} {w : World} {a b c d : Int} (h1 : 0 ≤ a) (h2 : a < b) (h3 : b < 60) (k1 : 0 ≤ c) (k2 : c < d) (k3 : d < 60)
    (e : tupleKeyHash (mixKind P w) [.inl a, .inl b] = tupleKeyHash (mixKind P w) [.inl c, .inl d]) : a = c ∧ b = d := by
  have ea : a = (a.toNat : Int) := (Int.toNat_of_nonneg h1).symm
  have eb : b = (b.toNat : Int) := (Int.toNat_of_nonneg (by omega)).symm
  have ec : c = (c.toNat : Int) := (Int.toNat_of_nonneg k1).symm
  have ed : d = (d.toNat : Int) := (Int.toNat_of_nonneg (by omega)).symm
  have e' : hp (a.toNat, b.toNat) = hp (c.toNat, d.toNat) := by
    rw [ea, eb, ec, ed] at e
    exact e
  have hr : res (a.toNat, b.toNat) = res (c.toNat, d.toNat) := by unfold res; rw [e']
  rcases pairwise_mem (seen_ok seen_pairs).2 (in_pairs (a := a.toNat) (b := b.toNat) (by omega) (by omega)) (in_pairs (a := c.toNat) (b := d.toNat) (by omega) (by omega)) with z | z | z
  · obtain ⟨z1, z2⟩ := Prod.mk.inj z
    omega
  · exact absurd hr z
  · exact absurd hr.symm z
end Wk
/-! o[i] = v and o += y by a class's own methods; o[i] as the first step of o[i] += y. -/
namespace Wk
open PySem PySem.Spec PyProof.Rows L2
section
variable {X : Cx} {CX : CXT} {k : Nat} {C f : Addr} {fd : FuncData} {ps : List Str} {sp : Sp} {E : XK}
/-- o[i], as PGet -/
theorem get_own (F : FnOk X.prog X.w X.K X.mg X.base CX k f fd ps sp) (hr : Room k X.A) (hb : Binds X.K fd ps []) (hx : Passes CX X E) (hq : PySem.W.noSeq X.K C = true)
    (hs : PySem.W.findIn X.K (.ref C) "__getitem__" = some (some (.ref f))) (hf : PySem.W.isFn X.K (.ref f) = true) : PGet X (rIxO C sp E) := by
  intro pins s σ H o i ov iv Q I ro ri h
  obtain ⟨a, dx, fs, rfl, ha, h⟩ := h
  cases (show ov = Value.ref a from ro)
  obtain ⟨mA, J, _⟩ := ins_get I.hok ha
  obtain ⟨od, J, _⟩ := J.look
  obtain ⟨m, hF⟩ := I.fr
  exact PySem.W.getItem_K hF I.ok.mod.kin J hq hs hf (dun_call F rfl hr hb hx I (.cons (show RelV (.ref a) (.ref a) from rfl) (.cons ri .nil)) h)
/-- o[i] = v -/
def rSetO (C : Addr) (sp : Sp) (E : XK) : TSet := fun o i v H Q => ∃ a dx fs, o = .ref a ∧ H a = some (.ins C dx fs) ∧ sp [.ref a, i, v] H (fun _ H' => Q H') E
theorem set_own (F : FnOk X.prog X.w X.K X.mg X.base CX k f fd ps sp) (hr : Room k X.A) (hb : Binds X.K fd ps []) (hx : Passes CX X E) (hq : PySem.W.noSeq X.K C = true)
    (hs : PySem.W.findIn X.K (.ref C) "__setitem__" = some (some (.ref f))) (hf : PySem.W.isFn X.K (.ref f) = true) : PSet X (rSetO C sp E) := by
  intro pins s σ H o i v ov iv u Q I ro ri rv h
  obtain ⟨a, dx, fs, rfl, ha, h⟩ := h
  cases (show ov = Value.ref a from ro)
  obtain ⟨mA, J, _⟩ := ins_get I.hok ha
  obtain ⟨od, J, _⟩ := J.look
  obtain ⟨m, hF⟩ := I.fr
  refine PySem.W.ksp_setItem hF I.ok.mod.kin J hq hs hf (wpAny_mono (dun_call F rfl hr hb hx I (.cons (show RelV (.ref a) (.ref a) from rfl) (.cons ri (.cons rv .nil))) h) (fun r s' z => ?_) fun _ _ e => e)
  obtain ⟨z, H', I', rz, q⟩ := z
  exact ⟨H', I', q⟩
end
section
variable {X : Cx} {CX : CXT} {k : Nat} {C f : Addr} {fd : FuncData} {ps : List Str} {sp : Sp} {E : L2.St → XK}
/-- name += y, the class's own method, which tells an object -/
def tAugO (i : Nat) (C : Addr) (sp : Sp) (E : L2.St → XK) (te : TE) : TS := fun D σ H => ∃ a, σ[i]? = some (some (.ref a)) ∧ te σ H fun y H1 => ∃ dx fs, H1 a = some (.ins C dx fs) ∧ sp [.ref a, y] H1 (fun v H2 => ∃ c, v = .ref c ∧ D.nx (σ.set i (some (.ref c))) H2) (E σ)
theorem ps_augO {i : Nat} {x : Str} {e : Expr} {te : TE} {op : Operator} {pos pos' : Pos} (F : FnOk X.prog X.w X.K X.mg X.base CX k f fd ps sp) (hr : Room k X.A) (hb : Binds X.K fd ps []) (hxx : ∀ σ, PassesAt CX X σ (E σ)) (hc : PySem.W.selfFirst X.K C = true)
    (hs : PySem.W.findIn X.K (.ref C) (dunderI op.info.2) = some (some (.ref f))) (hff : PySem.W.isFn X.K (.ref f) = true)
    (hN : X.N.Nodup) (hi : X.N[i]? = some x) (hx : Loc X.env.scope x) (he : PE X e te) (hf : X.fn x = true ∨ X.env.scope.names.lookup x = some .local := by first | exact .inl rfl | exact .inr rfl | assumption) :
    PS X (.AugAssign (.Name x pos') op e pos) (tAugO i C sp E te) := by
  refine ⟨fun pins s σ H D I h => ?_⟩
  obtain ⟨a, e1, h⟩ := h
  obtain ⟨m, hn, hl⟩ := I.loc
  have vis : Vis X.env.scope x := by rcases hx with k | k; exact .inl k; exact .inr (.inl k)
  obtain ⟨u, r, l⟩ := hl i x (.ref a) hi e1 vis
  cases (show u = Value.ref a from r)
  refine wpAny_AugAssign_Name ?_
  have go : wpAny (model X.prog X.w) X.A (eval e X.env) (fun w s₂ => wpAny (model X.prog X.w) X.A (inplaceOp op (.ref a) w) (fun r s₃ => wpAny (model X.prog X.w) X.A (storeName X.env x r) (fun _ => SP X pins D .next) X.xe s₃) X.xe s₂) X.xe s := by
    refine thn (he.run pins s σ H _ I h) fun w s1 ⟨y, H1, I1, r1, dx, fs, ha, q1⟩ => ?_
    obtain ⟨mA, J, _⟩ := ins_get I1.hok ha
    obtain ⟨od, J, _⟩ := J.look
    obtain ⟨m, hF⟩ := I1.fr
    refine PySem.W.ksp_inplace hF I1.ok.mod.kin J hc hs hff (wpAny_mono (dun_callS F rfl hr hb (hxx σ) I1 (.cons (show RelV (.ref a) (.ref a) from rfl) (.cons r1 .nil)) q1) (fun r s' z => ?_) fun _ _ e => e)
    obtain ⟨z, H', I', rz, c, ez, q⟩ := z
    subst ez
    cases (show r = Value.ref c from rz)
    exact store_ok I' hN hi hx (show RelV (.ref c) (.ref c) from rfl) (fun s3 I3 => ⟨_, H', I3, q⟩) hf
  rcases l with ⟨hk, hm⟩ | ⟨hk, c, hc, hcell⟩
  · exact wpAny_loadName_local I.ok.kind hk hn hm go
  · rcases hk with hk | hk
    · exact wpAny_loadName_cell I.ok.kind hk hc hcell go
    · rcases hx with k | k
      · have : X.env.scope.names.lookup x = some .free := hk
        rw [k] at this; cases this
      · have : X.env.scope.names.lookup x = some .free := hk
        rw [k] at this; cases this
/-- o.m(e, ..) where what may fly is told by the state -/
theorem pe_methT {pl : Sem Bool} {o e : Expr} {es : List Expr} {m : Str} {apos pos : Pos} {ta : TE} {t : TA} (he : PE X o ta) (c : Cls X.K C) (hm : Meth X.K C m f) (F : FnOk X.prog X.w X.K X.mg X.base CX k f fd ps sp) (hr : Room k X.A) (hb : Binds X.K fd ps []) (hx : ∀ σ, PassesAt CX X σ (E σ)) (ha : PA X (e :: es) t)
    (hst : starEach (e :: es) X.env = (false, eval e X.env) :: starEach es X.env := by rfl) (hpl : (backTo pos (starEach es X.env)).any (·.1) = false := by rfl)
    (ht : eval (.Call (.Attribute o m apos) (e :: es) [] pos) X.env = (do
      let ov ← eval o X.env
      standAt apos.atName
      let (f, first) ← holding [ov] (getMethod ov m pl)
      callWith pos f first (backTo pos (starEach (e :: es) X.env)) (backToKw pos (keywordEach [] X.env))) := by rfl) :
    PE X (.Call (.Attribute o m apos) (e :: es) [] pos) (fun σ H Q => tMeth C m sp [] (E σ) ta t σ H Q) := by
  refine ⟨fun pins s σ H Q I h => ?_⟩
  refine PySem.W.methodCall_KW (pl := pl) (thn (he.run pins s σ H _ I h) fun u s1 ⟨x, H1, I1, rx, a, dx, fs, ex, ea, l, q⟩ => ?_) ht
  subst ex
  obtain rfl : u = Value.ref a := rx
  refine getmeth_ok I1 ea c hm l ?_
  refine PySem.W.callWith_K (first := [.ref a]) (h₀ := X.base) I.ok.mod.kin hm.kp (thn (ha.run pos pins s1 σ H1 _ I1 q) fun us s2 ⟨vs, H2, I2, r, q2⟩ => ⟨I2.kIn, ?_⟩) hst hpl
  have q2 : sp (.ref a :: (vs ++ [])) H2 Q (E σ) := q2
  rw [List.append_nil] at q2
  exact dun_callS (vs := .ref a :: vs) (us := .ref a :: us) F rfl hr hb (hx σ) I2 (.cons rfl r) q2
end
end Wk
/-! zip of two tuples, as a walk -/
namespace Wk
open PySem PySem.Spec PyProof.Rows L2 RZ
theorem walk_zipT {K : PySem.W.Frag} {a b : Addr} {xs ys : List V} {n : Nat} (e1 : xs.length = n) (e2 : ys.length = n) : Walk (ItzT K a b) n (fun H => SqT K H a xs ∧ SqT K H b ys) (YPair (fun i => xs[i]?) (fun i => ys[i]?)) := by
  refine ⟨fun i H hi q => ?_, fun H q => ?_, fun i H x H' hi q y => ?_⟩
  · have h1 : i < xs.length := by omega
    have h2 : i < ys.length := by omega
    exact ⟨xs, ys, _, _, q.1, q.2, List.getElem?_eq_getElem h1, List.getElem?_eq_getElem h2⟩
  · exact ⟨xs, ys, q.1, q.2, Or.inl (by omega)⟩
  · obtain ⟨T, x', y', rfl, hT, rfl, f1, f2⟩ := y
    exact ⟨T, x', y', rfl, hT, rfl, f1 xs q.1, f2 ys q.2⟩
end Wk
/-! Reading by itself: what stands where, new addresses, defs of the module. -/
namespace Vb
open PySem PySem.Spec PyProof.Rows L2 Wk
/-- an address that is not yet in use -/
def New (H : Hp) (p : Addr) : Prop := H p = none
theorem same_new {H : Hp} {p : Addr} {o : HO} (h : New H p) : Same H (upd H p o) := fun b x e => by
  rw [upd_ne (ne_of_none e h)]
  exact e
theorem hp_new {H : Hp} {p a : Addr} {u o : HO} (h : New H p) (e : H a = some o) : upd H p u a = some o := same_new h _ _ e
theorem hp_same {H H' : Hp} {a : Addr} {o : HO} (s : Same H H') (e : H a = some o) : H' a = some o := s _ _ e
theorem hp_ne {H : Hp} {p a : Addr} {u o : HO} (n : a ≠ p) (e : H a = some o) : upd H p u a = some o := by rw [upd_ne n]; exact e
theorem ne_new {H : Hp} {a b : Addr} {o : HO} (h : New H b) (e : H a = some o) : a ≠ b := ne_of_none e h
theorem to_new {H0 H : Hp} {p : Addr} {u : HO} (h : New H p) (s : Same H0 H) : Same H0 (upd H p u) := s.trans (same_new h)
theorem over {H0 H : Hp} {p : Addr} {u : HO} (h : New H0 p) (s : Same H0 H) : Same H0 (upd H p u) := fun b x e => by
  rw [upd_ne (ne_of_none e h)]
  exact s _ _ e
theorem new_back {H H' : Hp} {p : Addr} (h : New H' p) (s : Same H H') : New H p := s.free h
theorem sqL_same {K : PySem.W.Frag} {H H' : Hp} {a : Addr} {xs : List V} (s : Same H H') (h : SqL K H a xs) : SqL K H' a xs := h.ext s
theorem sqL_new {K : PySem.W.Frag} {H : Hp} {a p : Addr} {u : HO} {xs : List V} (n : New H p) (h : SqL K H a xs) : SqL K (upd H p u) a xs := h.ext (same_new n)
theorem sqT_same {K : PySem.W.Frag} {H H' : Hp} {a : Addr} {xs : List V} (s : Same H H') (h : SqT K H a xs) : SqT K H' a xs := h.ext s
theorem sqT_new {K : PySem.W.Frag} {H : Hp} {a p : Addr} {u : HO} {xs : List V} (n : New H p) (h : SqT K H a xs) : SqT K (upd H p u) a xs := h.ext (same_new n)
/-- a list that is tracked is changed: tuples stay -/
theorem sqT_set {K : PySem.W.Frag} {H : Hp} {a p : Addr} {ys zs xs : List V} (e : H p = some (.lst ys)) (h : SqT K H a xs) : SqT K (upd H p (.lst zs)) a xs := by
  rcases h with (h | ⟨o, h⟩) | h
  · exact .inl (.inl (by rw [upd_ne (fun z => by rw [z, e] at h; cases h)]; exact h))
  · exact .inl (.inr ⟨o, by rw [upd_ne (fun z => by rw [z, e] at h; cases h)]; exact h⟩)
  · exact .inr h
theorem map_get {ns : List Int} {i : Nat} {x : V} (h : (ns.map V.int)[i]? = some x) : ∃ z, ns[i]? = some z ∧ x = V.int z := by
  rw [List.getElem?_map] at h
  cases e : ns[i]? with
  | none => rw [e] at h; cases h
  | some z => rw [e] at h; exact ⟨z, rfl, (Option.some.inj h).symm⟩
theorem take_snoc {α : Type} {xs : List α} {i : Nat} {z : α} (h : xs[i]? = some z) : xs.take (i + 1) = xs.take i ++ [z] := by rw [List.take_add_one, h]; rfl
/-- tuples stay -/
def TS (H H' : Hp) : Prop := ∀ t xs, H t = some (.tup xs) → H' t = some (.tup xs)
theorem TS.refl (H : Hp) : TS H H := fun _ _ h => h
theorem TS.of {H H' : Hp} (s : Same H H') : TS H H' := fun t xs h => s t _ h
theorem TS.trans {H H1 H2 : Hp} (a : TS H H1) (b : TS H1 H2) : TS H H2 := fun t xs h => b t xs (a t xs h)
theorem TS.ins {H : Hp} {w C dx : Addr} {fs : List (Str × V)} {o : HO} (h : H w = some (.ins C dx fs)) : TS H (upd H w o) := fun t xs e => by
  rw [upd_ne (fun z => by rw [z, h] at e; cases e)]; exact e
theorem TS.lst {H : Hp} {w : Addr} {ys : List V} {o : HO} (h : H w = some (.lst ys)) : TS H (upd H w o) := fun t xs e => by
  rw [upd_ne (fun z => by rw [z, h] at e; cases e)]; exact e
/-- a def of the module, its promise kept -/
structure Own (P : Program) (w : World) (K : PySem.W.Frag) (mg : Str → Option Value) (base : Heap) (CX : CXT) (k : Nat) (x : Str) (ps : List Str) (sp : Sp) : Prop where
  ex : ∃ f fd, FnOk P w K mg base CX k f fd ps sp ∧ mg x = some (.ref f) ∧ PySem.W.keepIn K (.ref f) = true ∧ Binds K fd ps []
section
variable {X : Cx} {CX : CXT} {k : Nat} {ps : List Str} {sp : Sp} {x : Str} {p pos : Pos} {e : Expr} {es : List Expr} {t : TA} {E : XK}
theorem pe_own (o : Own X.prog X.w X.K X.mg X.base CX k x ps sp) (hr : Room k X.A) (hx : Passes CX X E) (ha : PA X (e :: es) t) (hg : Gl X x := by rfl) (hdb : (x == ("__debug__" : Str)) = false := by decide)
    (he : starEach (e :: es) X.env = (false, eval e X.env) :: starEach es X.env := by rfl) (hpl : (backTo pos (starEach es X.env)).any (·.1) = false := by rfl) : PE X (.Call (.Name x p) (e :: es) [] pos) (tCall sp [] E t) := by
  obtain ⟨f, fd, F, m, kp, b⟩ := o.ex
  exact pe_call F hr hg m kp b .nil hx ha hdb he hpl
end
end Vb
/-! A new object: what stands then. -/
namespace Vb
open PySem PySem.Spec PyProof.Rows L2 Wk
theorem al_s {H H' : Hp} {p : Addr} {o : HO} (n : New H p) (hh : upd H p o = H') : Same H H' := hh ▸ same_new n
theorem al_e {H H' : Hp} {p : Addr} {o : HO} (hh : upd H p o = H') : H' p = some o := hh ▸ upd_same
theorem st {H H1 H' : Hp} (b : Same H1 H') (a : Same H H1) : Same H H' := a.trans b
theorem sl {K : PySem.W.Frag} {H : Hp} {a : Addr} {xs : List V} (h : H a = some (.lst xs)) : SqL K H a xs := .inl (.inl h)
theorem stu {K : PySem.W.Frag} {H : Hp} {a : Addr} {xs : List V} (h : H a = some (.tup xs)) : SqT K H a xs := .inl (.inl h)
theorem ne_s {H H' : Hp} {a b : Addr} {o : HO} (h : New H' b) (e : H a = some o) (s : Same H H') : a ≠ b := ne_new h (s _ _ e)
theorem cutN (xs : List V) (n : Nat) : cutV xs none (some (n : Int)) = xs.take n := by
  unfold cutV
  rw [HT.sIx_none, show HT.sIx xs.length xs.length (some (n : Int)) = min n xs.length from HT.sIx_nat xs.length xs.length n]
  rw [List.drop_zero, Nat.sub_zero]
  by_cases h : xs.length ≤ n
  · rw [Nat.min_eq_right h, List.take_of_length_le (Nat.le_refl _), List.take_of_length_le h]
  · rw [Nat.min_eq_left (by omega)]
theorem ty_lst {K : PySem.W.Frag} {H : Hp} {a : Addr} {xs : List V} (h : H a = some (.lst xs)) : tyV K "list" (.ref a) H := .inl ⟨rfl, _, .inl (.inl h)⟩
theorem atI_nat {xs : List V} {n : Nat} {i : Int} {x : V} (e : i = (n : Int)) (h : xs[n]? = some x) : atI xs i = some x := by
  have hn := (List.getElem?_eq_some_iff.mp h).1
  subst e
  unfold atI ixN
  rw [if_pos (by omega), if_pos (by omega)]
  exact h
end Vb
/-! What a caller says of an own error, told of a heap to which objects were added. -/
namespace Wk
open PySem PySem.Spec PyProof.Rows L2 StX
theorem cxUpN {P : Program} {w : World} : CXUp (L2N.CX P w) := by
  rintro outer s H s2 H2 E e s' un kp ho ⟨a, B, H', cls, d, ea, fl, hok, ub, na, os, ag, he⟩
  refine ⟨a, B, H', cls, d, ea, fl, hok, ⟨fun b o q n hb => ub.keep b o (kp b o q) (un.free b o q n (by simp)) hb, fun b o q hb => ub.slot b o (kp b o q) hb, fun b o q n => ub.free b o (kp b o q) (un.free b o q n (by simp)),
    fun b o q hb => ub.there b o (kp b o q) hb, fun b xs q => ub.tups b xs (un.tups b xs q), fun b o xs q => ub.frzs b o xs (un.frzs b o xs q), fun b ps q => ?_⟩, na, os.trans ho, ag, he⟩
  obtain ⟨m1, e1⟩ := un.tbls b ps q
  obtain ⟨m2, e2⟩ := ub.tbls b _ e1
  exact ⟨m1 ++ m2, by rw [e2, Array.append_assoc]⟩
end Wk
/-! bool(o), str(o) by a class's own methods. -/
namespace Wk
open PySem PySem.Spec PyProof.Rows L2 PySem.W
section
variable {prog : Program} {w : World} {A : Around} {E : Value → Shared → Prop} {s : Shared} {K : PySem.W.Frag} {x C f : Addr} {ox : Obj} {od : Option Obj} {h₀ : Heap} {L : List (Addr × List (Str × Value))}
open Builtin in
theorem bool_own {Q : Value → Shared → Prop} (ht : wpAny (model prog w) A.in1.in1 (truthy (.ref x)) (fun b s₁ => Q (.bool b) s₁) E s) : wpAny (model prog w) A (call (.type "bool") [.ref x]) Q E s := by
  refine callType_codes (T := "bool") (Bi := Builtin.«object.__init__») (Q₁ := fun r s₁ => ∃ b, r = .bool b ∧ Q r s₁) PySem.F.called_bool (PySem.F.typeCall_bool_1 _) PySem.F.entry_object_init ?_ ?_
  · refine codeAny_of_tree ?_
    show wpAny _ A.in1.in1 (do checkBuiltinCall "bool.__new__" ⟨[.type "bool", .ref x], []⟩; again (.builtin "bool.__new__" ⟨[.type "bool", .ref x], []⟩)) _ _ s
    refine wpAny_bind (wpAny_of_eq (PySem.F.newCall_bool_1 _) (wpAny_pure ⟨plainId_quiet (by decide +kernel) _, codeAny_builtin PySem.F.entry_bool_new ?_⟩))
    rw [Around.under_plainId (by decide +kernel) _]
    have f1 := F.conv_sub_bool
    unfold Builtin.«bool.__new__»
    repeat (any_goals (first | assumption | (with_reducible refine wpAny_bind (wpAny_mono ht (fun b s₁ hq => ?_) fun _ _ y => y)) | wp_step))
    exact ⟨_, rfl, hq⟩
  · rintro obj s₁ ⟨b, rfl, hq⟩
    exact ⟨rfl, PySem.F.args_object_init_2 _ _, object_init_meets PySem.F.called_bool.init.lookup PySem.F.called_bool.made (by decide) prog w A.in1 _ s₁ ⟨rfl, rfl, hq⟩⟩
end
section
variable {X : Cx} {CX : CXT} {k : Nat} {C f : Addr} {fd : FuncData} {ps : List Str} {sp : Sp} {E : XK}
def rBoolO (C : Addr) (sp : Sp) (E : XK) : List V → Hp → VK → Prop := fun xs H Q => ∃ a dx fs, xs = [.ref a] ∧ H a = some (.ins C dx fs) ∧ sp [.ref a] H (fun v H' => ∃ b, v = .bl b ∧ Q (.bl b) H') E
theorem call_boolO (F : FnOk X.prog X.w X.K X.mg X.base CX k f fd ps sp) (hr : Room (k + 2) X.A) (hb : Binds X.K fd ps []) (hx : Passes CX X E)
    (hs : PySem.W.findIn X.K (.ref C) "__bool__" = some (some (.ref f))) (hf : PySem.W.isFn X.K (.ref f) = true) : CallR X (.type "bool") (rBoolO C sp E) := by
  intro pins s σ H xs us Q I rv h
  obtain ⟨a, dx, fs, rfl, ha, h⟩ := h
  rw [Vals.ref1 rv]
  obtain ⟨mA, J, _⟩ := ins_get I.hok ha
  obtain ⟨od, J, _⟩ := J.look
  obtain ⟨m, hF⟩ := I.fr
  have hr2 : Room k X.A.in1.in1 := (show Room (k + 1) X.A.in1 from Room.in1 hr).in1
  refine bool_own (PySem.W.truthy_K hF I.ok.mod.kin J hs hf (wpAny_mono (dun_call (A := X.A.in1.in1) F rfl hr2 hb hx I (.cons (show RelV (.ref a) (.ref a) from rfl) .nil) h) (fun r s' z => ?_) fun _ _ e => e))
  obtain ⟨z, H', I', rz, b, ez, q⟩ := z
  subst ez
  cases rz
  exact ⟨.bl b, H', I', rfl, q⟩
def rStrO (C : Addr) (sp : Sp) (E : XK) : List V → Hp → VK → Prop := fun xs H Q => ∃ a dx fs, xs = [.ref a] ∧ H a = some (.ins C dx fs) ∧ sp [.ref a] H (fun v H' => ∃ z, v = .str z ∧ Q (.str z) H') E
theorem call_strO (F : FnOk X.prog X.w X.K X.mg X.base CX k f fd ps sp) (hr : Room (k + 2) X.A) (hb : Binds X.K fd ps []) (hx : Passes CX X E)
    (hs : PySem.W.findIn X.K (.ref C) "__str__" = some (some (.ref f))) (hf : PySem.W.isFn X.K (.ref f) = true) : CallR X (.type "str") (rStrO C sp E) := by
  intro pins s σ H xs us Q I rv h
  obtain ⟨a, dx, fs, rfl, ha, h⟩ := h
  rw [Vals.ref1 rv]
  obtain ⟨mA, J, _⟩ := ins_get I.hok ha
  obtain ⟨od, J, _⟩ := J.look
  have hr2 : Room k X.A.in1.in1 := (show Room (k + 1) X.A.in1 from Room.in1 hr).in1
  refine PySem.W.kso_call hr2.units0 I.kIn J hs hf (wpAny_mono (dun_call (A := X.A.in1.in1) F rfl hr2 hb hx I (.cons (show RelV (.ref a) (.ref a) from rfl) .nil) h) (fun r s' z => ?_) fun _ _ e => e)
  obtain ⟨z, H', I', rz, b, ez, q⟩ := z
  subst ez
  obtain ⟨tk, rfl⟩ := rz
  exact ⟨.str b, H', I', ⟨tk, rfl⟩, q⟩
end
end Wk
/-! any(xs), xs a list of tuples -/
namespace Wk
open PySem PySem.Spec PyProof.Rows L2
section
variable {P : Program} {w : World} {A : Around} {R : Result → Shared → Prop} {it : Addr} {fp wr : List Addr} {n : Nat} {Pv : Nat → Value → Prop} {St : Nat → Heap → Prop}
/-- what is asked of the truths: at any heap that holds what stood at first -/
def TruthsAt (P : Program) (w : World) (A : Around) (h0 : Heap) (wr : List Addr) (Pv : Nat → Value → Prop) (tr : Nat → Bool) : Prop :=
  ∀ i v (s : Shared) (Q : Bool → Shared → Prop) (E : Value → Shared → Prop), Pv i v → (∀ b o, b ∉ wr → h0.get? b = some o → s.heap.get? b = some o) → (∀ tk, Q (tr i) { s with toks := tk }) → wpAny (model P w) A (truthy v) Q E s
theorem any_goes (W : Walks P w A.in1 it fp wr n Pv St) (tr : Nat → Bool) {h0 : Heap} (T : TruthsAt P w A.in1 h0 wr Pv tr) : ∀ (left i : Nat) (s : Shared), n - i = left → i ≤ n → St i s.heap → (∀ b o, b ∉ wr → h0.get? b = some o → s.heap.get? b = some o) →
    (∀ h' tk, (∀ b o, b ∉ wr → s.heap.get? b = some o → h'.get? b = some o) → R (.ok (.ret (.bool (((List.range n).drop i).any tr)))) { s with heap := h', toks := tk }) → codeAny (model P w) A (.builtin "any.loop" ⟨[.ref it], []⟩) R s
  | 0, i, s, el, hi, st, hk, fin => by
    obtain rfl : i = n := by omega
    refine codeAny_builtin F.entry_any_loop ?_
    rw [Around.under_plainId F.plain_any_loop _]
    show wpAny _ A.in1 (pyNext (.ref it) >>= _) _ _ s
    refine wpAny_bind (W.done s _ _ st fun h' tk kk => wpAny_bind (wpAny_rule (wpAny_pure ?_)))
    have z := fin h' tk kk
    rwa [List.drop_of_length_le (by simp)] at z
  | left + 1, i, s, el, hi, st, hk, fin => by
    have lt : i < n := by omega
    have dr : (List.range n).drop i = i :: (List.range n).drop (i + 1) := by rw [List.drop_eq_getElem_cons (by simpa using lt)]; simp
    refine codeAny_builtin F.entry_any_loop ?_
    rw [Around.under_plainId F.plain_any_loop _]
    show wpAny _ A.in1 (pyNext (.ref it) >>= _) _ _ s
    refine wpAny_bind (W.item i s _ _ lt st fun v h' tk hp st' kk => ?_)
    have hk' : ∀ b o, b ∉ wr → h0.get? b = some o → h'.get? b = some o := fun b o hb e => kk b o hb (hk b o hb e)
    refine wpAny_bind (wpAny_holding (T i v _ _ _ hp hk' fun tk2 => wpAny_bind (wpAny_letGo ?_)))
    cases ht : tr i with
    | true =>
      rw [if_pos rfl]
      refine wpAny_bind (wpAny_rule (wpAny_pure ?_))
      have z := fin h' tk2 kk
      rwa [dr, List.any_cons, ht, Bool.true_or] at z
    | false =>
      rw [if_neg Bool.false_ne_true]
      refine wpAny_pure ⟨plainId_quiet F.plain_any_loop _, any_goes W tr T left (i + 1) _ (by omega) lt st' hk' fun h'' tk' k' => ?_⟩
      have z := fin h'' tk' fun b o hb e => k' b o hb (kk b o hb e)
      rwa [dr, List.any_cons, ht, Bool.false_or] at z
theorem any_of {E : Value → Shared → Prop} {s : Shared} {x : Value} {Q : Value → Shared → Prop}
    (h : wpAny (model P w) A.in1 (pyIter x) (fun v s2 => ∃ it fp wr n Pv St tr, v = .ref it ∧ Walks P w A.in1 it fp wr n Pv St ∧ St 0 s2.heap ∧ TruthsAt P w A.in1 s2.heap wr Pv tr ∧
      ∀ h' tk, (∀ b o, b ∉ wr → s2.heap.get? b = some o → h'.get? b = some o) → Q (.bool ((List.range n).any tr)) { s2 with heap := h', toks := tk }) E s) : wpAny (model P w) A (call (.builtin "any") [x]) Q E s := by
  refine call_function_tree F.kind_any F.plain_any F.entry_any (F.args_any1 _) ?_
  unfold Builtin.«any»
  refine wpAny_bind (m := oneArg "any" _) (wpAny_pure (wpAny_bind (wpAny_mono h ?_ fun _ _ e => e)))
  rintro v s2 ⟨it, fp, wr, n, Pv, St, tr, rfl, W, st, T, q⟩
  exact wpAny_pure ⟨plainId_quiet F.plain_any_loop _, any_goes W tr T n 0 s2 rfl (Nat.zero_le _) st (fun _ _ _ e => e) fun h' tk hk => by simpa using q h' tk hk⟩
end
/-- any(xs): the items are tuples, bs tells which are not empty -/
def rAnyTs (K : PySem.W.Frag) : List V → Hp → VK → Prop := fun vs H Q => ∃ (a : Addr) (xs : List V) (bs : List Bool), vs = [V.ref a] ∧ SqL K H a xs ∧ xs.length = bs.length ∧
  (∀ (i : Nat) (x : V), xs[i]? = some x → ∃ t ys, x = .ref t ∧ SqT K H t ys ∧ bs[i]? = some (!ys.isEmpty)) ∧ Q (.bl (bs.any id)) H
theorem cr_anyTs {X : Cx} {K : PySem.W.Frag} (hK : X.K = K) (hc : X.calm = true) : CallR X (.builtin "any") (rAnyTs K) := by
  subst hK
  intro pins s σ H vs us Q I r h
  obtain ⟨a, xs, bs, rfl, hs, len, all, q⟩ := h
  obtain ⟨its, rv, hl, _⟩ := I.list hs
  rw [Vals.ref1 r]
  refine any_of (iter_any hl.isList fun s2 e2 st hne => ?_)
  subst e2
  refine ⟨_, _, _, _, _, _, fun i => bs.getD i false, rfl, Walks.list (A := X.A.in1) (I.ok.hd hc) _ a hne its.toArray, st, fun i v s3 Q3 E3 hv hk hq => ?_, fun h' tk hk => ?_⟩
  · have hv' : its[i]? = some v := by simpa using hv
    have hi : i < xs.length := by rw [rv.length]; exact (List.getElem?_eq_some_iff.mp hv').1
    obtain ⟨t, ys, e1, hT, hb⟩ := all i xs[i] (List.getElem?_eq_getElem hi)
    obtain ⟨u, hu, ru⟩ := rv.get (List.getElem?_eq_getElem hi)
    rw [hv'] at hu
    cases hu
    rw [e1] at ru
    cases ru
    have I3 : Inv X pins σ H { s with heap := s3.heap } := I.kept (t' := s.toks) fun b o eo => hk b o (fun m => ?_) (Heap.get?_push_of_some _ eo)
    · obtain ⟨jts, jv, jt, jz⟩ := I3.tuple hT
      refine truthy_tuple (s := s3) jt ?_ ?_
      · have := line63
        rw [List.size_toArray, ← jv.length]; omega
      · have e : bs.getD i false = !ys.isEmpty := by rw [List.getD_eq_getElem?_getD, hb]; rfl
        have hq' := hq (s3.toks + 1 + 1)
        replace hq' : Q3 (bs.getD i false) { s3 with toks := s3.toks + 1 + 1 } := hq'
        rw [e, ← isEmpty_of jv] at hq'
        exact hq'
    · rcases List.mem_cons.mp m with e | m
      · exact absurd (e ▸ Heap.lt_size eo) (Nat.lt_irrefl _)
      · cases m
  · refine ⟨.bl _, H, I.kept fun b o eo => hk b o (fun m => ?_) (Heap.get?_push_of_some _ eo), ?_, q⟩
    · rcases List.mem_cons.mp m with e | m
      · exact absurd (e ▸ Heap.lt_size eo) (Nat.lt_irrefl _)
      · cases m
    · show Value.bool _ = Value.bool _
      rw [← L2.any_range, List.size_toArray, ← rv.length, len]
end Wk
/-! t + u of two tuples, read in one way whatever is empty -/
namespace Wk
open PySem PySem.Spec PyProof.Rows L2
def rCatW : R2 := fun x y H Q => ∃ a b xs ys, x = .ref a ∧ y = .ref b ∧ H a = some (.tup xs) ∧ H b = some (.tup ys) ∧ xs.length + ys.length ≤ sizeLine ∧ ∀ H' r, Same H H' → H' r = some (.tup (xs ++ ys)) → Q (.ref r) H'
theorem op_catW {X : Cx} : OpR X (binaryOp .Add) rCatW := by
  intro pins s σ H x y v u Q I rx ry h
  obtain ⟨a, b, xs, ys, rfl, rfl, ha, hb, hz, q⟩ := h
  refine op_catA pins s σ H _ _ v u Q I rx ry ⟨a, b, xs, ys, rfl, rfl, .inl (.inl ha), .inl (.inl hb), hz, fun e => ?_, fun _ e => ?_, fun _ _ p n => ?_⟩
  · exact q H b (Same.refl _) (by rw [e]; exact hb)
  · exact q H a (Same.refl _) (by rw [e, List.append_nil]; exact ha)
  · exact q _ p (fun o u e => by rw [upd_ne (ne_of_none e n)]; exact e) upd_same
end Wk
/-! Webs with their amounts; dicts of sums; how a Web is made. -/
namespace T77
open PySem PySem.Spec PyProof.Rows L2 Wk Vb
def lo (u v : Int) : Int := if v < u then v else u
def hi (u v : Int) : Int := if v > u then v else u
theorem nodup_le {α : Type} [DecidableEq α] : ∀ {l m : List α}, l.Nodup → (∀ x ∈ l, x ∈ m) → l.length ≤ m.length
  | [], _, _, _ => Nat.zero_le _
  | a :: l, m, h, hs => by
    obtain ⟨h1, h2⟩ := List.pairwise_cons.mp h
    have hm := hs a List.mem_cons_self
    have ih := nodup_le (m := m.erase a) h2 fun x hx => (List.mem_erase_of_ne (Ne.symm (h1 x hx))).mpr (hs x (List.mem_cons_of_mem _ hx))
    rw [List.length_erase_of_mem hm] at ih
    have : 0 < m.length := List.length_pos_of_mem hm
    rw [List.length_cons]
    omega
theorem kk_nodup {S : List T3} (hd : Dif S) : (S.map kk).Nodup := by
  show List.Pairwise _ _
  rw [List.pairwise_map]
  exact hd.imp fun {p q} k (e : kk p = kk q) => k (by
    unfold kk at e
    injection e with e1 e2
    injection e2 with e2 _
    exact ⟨e1, e2⟩)
theorem lt2_dif {T : List T3} (h : T.Pairwise lt2) : Dif T := h.imp fun {p q} a b => lt2_irrefl a b
theorem rg_ints (n : Nat) : rgV 0 (n : Int) = ((List.range n).map fun (i : Nat) => (i : Int)).map V.int := by
  unfold rgV
  rw [Int.sub_zero, Int.toNat_natCast, List.map_map]
  refine List.map_congr_left fun i _ => ?_
  show V.int (0 + (i : Int)) = V.int (i : Int)
  rw [Int.zero_add]
theorem ties_lenL {l T : List T3} {n : Int} (h : TiesOf n (amt l) T) : T.length ≤ l.length := by
  have h1 : (T.map kk).Nodup := by
    show List.Pairwise _ _
    rw [List.pairwise_map]
    exact h.asc.imp fun {p q} k (e : kk p = kk q) => lt2_irrefl k (by
      unfold kk at e
      injection e with e1 e2
      injection e2 with e2 _
      exact ⟨e1, e2⟩)
  have h2 := nodup_le (m := l.map kk) h1 fun x hx => by
    obtain ⟨p, hp, rfl⟩ := List.mem_map.mp hx
    have a := amt_mem h.asc hp
    have b := (h.mem p hp).2.2.2
    rw [h.am] at a
    obtain ⟨q, hq, e1, e2⟩ := mem_amt (T := l) (u := p.1) (v := p.2.1) (by omega)
    exact List.mem_map.mpr ⟨q, hq, by unfold kk; rw [e1, e2]⟩
  rwa [List.length_map, List.length_map] at h2
theorem init_of {K : PySem.W.Frag} {C x dx a : Addr} {H : Hp} {n : Nat} {xs : List V} {ps : List T3} {E : XK} {R : Hp → Prop} (hx : H x = none) (hdx : H dx = none) (hne : dx ≠ x) (hn : n ≤ 60) (hS : SqS K H a xs) (hT : Trs K H xs ps) (h64 : ps.length < 4000)
    (hv : ∀ p ∈ ps, tieB p.1 p.2.1 p.2.2 (n : Int) = true) (ham : ∀ u v, amt (ps.map norm) u v ≤ 1000000000) (q : ∀ H' T, Same H H' → TiesOf (n : Int) (amt (ps.map norm)) T → WebAt K C H' x n T → R H') :
    spInit K C [.ref x, .int (n : Int), .ref a] (upd (upd H dx (.own x)) x (.ins C dx [])) (fun v H2 => v = .non ∧ R H2) E := by
  have s1 : Same H (upd (upd H dx (.own x)) x (.ins C dx [])) := (same_upd hdx).trans (same_upd (by rw [upd_ne (Ne.symm hne)]; exact hx))
  refine ⟨x, n, a, dx, xs, ps, rfl, upd_same, hn, hS.ext s1, hT.same s1, h64, hv, ham, fun H' T b t w => ⟨rfl, q H' T (fun z o hz => b z o (ne_of_none hz hx) (s1 _ _ hz)) t w⟩⟩
/-- how a Web is made -/
structure MkWeb (P : Program) (w : World) (K : PySem.W.Frag) (mg : Str → Option Value) (base : Heap) (CW : Addr) : Prop where
  ex : ∃ f fd aE, Mk K CW f ∧ FnOk P w K mg base CX0 7 f fd ["self", "size", "ties"] (spInit K CW) ∧ mg "Web" = some (.ref CW) ∧ Binds K fd ["self", "size", "ties"] [] ∧ Binds K fd ["self", "size", "ties"] [.ref aE] ∧ ∀ H, SqT K H aE []
def WebOf (K : PySem.W.Frag) (CW : Addr) (n : Nat) (ps : List T3) (H1 : Hp) (Q : VK) : Prop := n ≤ 60 ∧ ps.length < 4000 ∧ (∀ p ∈ ps, tieB p.1 p.2.1 p.2.2 (n : Int) = true) ∧ (∀ u v, amt (ps.map norm) u v ≤ 1000000000) ∧
  ∀ H2 w T, Same H1 H2 → New H1 w → TiesOf (n : Int) (amt (ps.map norm)) T → WebAt K CW H2 w n T → Q (.ref w) H2
def tWeb (K : PySem.W.Frag) (CW : Addr) (t : TA) : TE := fun σ H Q => t σ H fun vs H1 => ∃ n a xs ps, vs = [.int (n : Nat), .ref a] ∧ SqS K H1 a xs ∧ Trs K H1 xs ps ∧ WebOf K CW n ps H1 Q
def tWeb1 (K : PySem.W.Frag) (CW : Addr) (t : TA) : TE := fun σ H Q => t σ H fun vs H1 => ∃ n, vs = [.int (n : Nat)] ∧ WebOf K CW n [] H1 Q
section
variable {X : Cx} {CW : Addr} {e : Expr} {es : List Expr} {t : TA} {p pos : Pos}
theorem pe_Web (M : MkWeb X.prog X.w X.K X.mg X.base CW) (hr : Room 8 X.A) (ha : PA X (e :: es) t) (hg : Gl X "Web" := by rfl)
    (he : starEach (e :: es) X.env = (false, eval e X.env) :: starEach es X.env := by rfl) (hpl : (backTo pos (starEach es X.env)).any (·.1) = false := by rfl) : PE X (.Call (.Name "Web" p) (e :: es) [] pos) (tWeb X.K CW t) := by
  obtain ⟨f, fd, aE, M, F, m, b, _, _⟩ := M.ex
  refine ⟨fun pins s σ H Q I h => ?_⟩
  refine wpAny_Call_Name_kw (ld_glob I hg m ?_ (by decide))
  refine PySem.W.callWith_K (h₀ := X.base) I.ok.mod.kin M.kp (thn (ha.run pos pins s σ H _ I h) fun us s1 ⟨vs, H1, I1, r, q⟩ => ⟨I1.kIn, ?_⟩) he hpl
  obtain ⟨n, a, xs, ps, rfl, hS, hT, hn, h64, hv, ham, q⟩ := q
  refine run_make M F hr b .nil pass0 I1 r fun x dx nx nd ne => ?_
  exact init_of nx nd ne hn hS hT h64 hv ham fun H' T s' ht hw => q H' x T s' nx ht hw
theorem pe_Web1 (M : MkWeb X.prog X.w X.K X.mg X.base CW) (hr : Room 8 X.A) (ha : PA X (e :: es) t) (hg : Gl X "Web" := by rfl)
    (he : starEach (e :: es) X.env = (false, eval e X.env) :: starEach es X.env := by rfl) (hpl : (backTo pos (starEach es X.env)).any (·.1) = false := by rfl) : PE X (.Call (.Name "Web" p) (e :: es) [] pos) (tWeb1 X.K CW t) := by
  obtain ⟨f, fd, aE, M, F, m, _, b, hE⟩ := M.ex
  refine ⟨fun pins s σ H Q I h => ?_⟩
  refine wpAny_Call_Name_kw (ld_glob I hg m ?_ (by decide))
  refine PySem.W.callWith_K (h₀ := X.base) I.ok.mod.kin M.kp (thn (ha.run pos pins s σ H _ I h) fun us s1 ⟨vs, H1, I1, r, q⟩ => ⟨I1.kIn, ?_⟩) he hpl
  obtain ⟨n, rfl, hn, h64, hv, ham, q⟩ := q
  refine run_make M F hr b (dvs := [.ref aE]) (.cons rfl .nil) pass0 I1 r fun x dx nx nd ne => ?_
  exact init_of (ps := []) nx nd ne hn (.inr (hE _)) True.intro h64 hv ham fun H' T s' ht hw => q H' x T s' nx ht hw
end
/-- a web of this size -/
def WSz (CW : Addr) (H : Hp) (w : Addr) (n : Nat) : Prop := ∃ dx fs, H w = some (.ins CW dx fs) ∧ fs.lookup ("size" : Str) = some (.int (n : Int))
theorem WSz.same {CW : Addr} {H H' : Hp} {w : Addr} {n : Nat} (h : WSz CW H w n) (s : Same H H') : WSz CW H' w n := let ⟨dx, fs, h1, h2⟩ := h; ⟨dx, fs, s _ _ h1, h2⟩
theorem WSz.of {K : PySem.W.Frag} {CW : Addr} {H : Hp} {w : Addr} {n : Nat} {T : List T3} (h : WebAt K CW H w n T) : WSz CW H w n := by
  obtain ⟨dx, t, ys, d, g, h1, _⟩ := h.ex
  exact ⟨dx, _, h1, by kernel_rfl⟩
/-- the names that a text reads and that are the built-in ones -/
structure Bl (mg : Str → Option Value) : Prop where
  m_isinstance : mg "isinstance" = none
  m_int : mg "int" = none
  m_bool : mg "bool" = none
  m_str : mg "str" = none
  m_tuple : mg "tuple" = none
  m_list : mg "list" = none
  m_dict : mg "dict" = none
  m_len : mg "len" = none
  m_enumerate : mg "enumerate" = none
  m_sorted : mg "sorted" = none
  m_min : mg "min" = none
  m_max : mg "max" = none
  m_sum : mg "sum" = none
  m_range : mg "range" = none
  m_any : mg "any" = none
  m_repr : mg "repr" = none
  m_abs : mg "abs" = none
  m_set : mg "set" = none
  m_zip : mg "zip" = none
  m_all : mg "all" = none
end T77
/-! Webs with their amounts; == of webs; web[u, v]. -/
namespace T77
open PySem PySem.Spec PyProof.Rows L2 Wk Vb
/-- a web with its amounts -/
structure WA (K : PySem.W.Frag) (C : Addr) (H : Hp) (w : Addr) (n : Nat) (am : Int → Int → Int) (T : List T3) : Prop where
  web : WebAt K C H w n T
  ties : TiesOf (n : Int) am T
  n60 : n ≤ 60
  len : T.length ≤ 1900
  bd : ∀ a b, am a b ≤ 1000000000
theorem WA.same {K : PySem.W.Frag} {C : Addr} {H H' : Hp} {w : Addr} {n : Nat} {am : Int → Int → Int} {T : List T3} (h : WA K C H w n am T) (s : Same H H') : WA K C H' w n am T := ⟨h.web.same s, h.ties, h.n60, h.len, h.bd⟩
theorem norm_id {p : T3} (h : p.1 < p.2.1) : norm p = p := by
  unfold norm
  rw [if_neg (by omega), if_pos (by omega)]
theorem ties_norm {T : List T3} (h : ∀ p ∈ T, p.1 < p.2.1) : T.map norm = T := by
  have := List.map_congr_left (f := norm) (g := id) (l := T) fun p hp => norm_id (h p hp)
  rw [this, List.map_id]
theorem ties_ok {T : List T3} {n : Int} {am : Int → Int → Int} (h : TiesOf n am T) (hb : ∀ a b, am a b ≤ 1000000000) : ∀ p ∈ T, tieB p.1 p.2.1 p.2.2 n = true := fun p hp => by
  have a1 := h.mem p hp
  have a2 := amt_mem h.asc hp
  rw [h.am] at a2
  have a3 := hb p.1 p.2.1
  exact tieB_iff.mpr ⟨by omega, by omega, by omega, by omega, by omega, by omega, by omega⟩
theorem ties_pos {T : List T3} {n : Int} {am : Int → Int → Int} (h : TiesOf n am T) (u v : Int) : 0 ≤ am u v := by
  rw [← h.am]
  exact amt_nonneg fun p hp => Int.le_of_lt (h.mem p hp).2.2.2
theorem ties_num {T : List T3} {n : Int} {am : Int → Int → Int} (h : TiesOf n am T) {p : T3} (hp : p ∈ T) : am p.1 p.2.1 = p.2.2 := by rw [← h.am]; exact amt_mem h.asc hp
theorem but_over {b D : Addr} {H0 H : Hp} {o : HO} (n : New H0 D) (h : But b H0 H) : But b H0 (upd H D o) := fun c u hc e => by
  rw [upd_ne (ne_of_none e n)]
  exact h c u hc e
/-! ### how many bundles there are -/
def row0 (u : Nat) : Nat → List T3
  | 0 => []
  | j + 1 => row0 u j ++ [((u : Int), (u : Int) + 1 + j, 0)]
def all0 (n : Nat) : Nat → List T3
  | 0 => []
  | i + 1 => all0 n i ++ row0 i (n - (i + 1))
theorem mem_row0 {u : Nat} : ∀ {j k : Nat}, k < j → ((u : Int), (u : Int) + 1 + k, (0 : Int)) ∈ row0 u j
  | j + 1, k, h => by
    by_cases c : k = j
    · subst c; exact List.mem_append_right _ List.mem_cons_self
    · exact List.mem_append_left _ (mem_row0 (by omega))
theorem mem_all0 {n : Nat} : ∀ {i u v : Nat}, u < i → u < v → v < n → ((u : Int), (v : Int), (0 : Int)) ∈ all0 n i
  | i + 1, u, v, h1, h2, h3 => by
    by_cases c : u = i
    · subst c
      have := mem_row0 (u := u) (j := n - (u + 1)) (k := v - (u + 1)) (by omega)
      rw [show (u : Int) + 1 + ((v - (u + 1) : Nat) : Int) = (v : Int) by omega] at this
      exact List.mem_append_right _ this
    · exact List.mem_append_left _ (mem_all0 (by omega) h2 h3)
theorem all0_len : (all0 60 60).length = 1770 := by decide +kernel
theorem ties_len60 {n : Nat} {am : Int → Int → Int} {T : List T3} (h : TiesOf (n : Int) am T) (hn : n ≤ 60) : T.length ≤ 1770 := by
  have h1 : (T.map kk).Nodup := kk_nodup (lt2_dif h.asc)
  have h2 := nodup_le (m := (all0 60 60).map kk) h1 fun x hx => by
    obtain ⟨p, hp, rfl⟩ := List.mem_map.mp hx
    have := h.mem p hp
    have hm := mem_all0 (n := 60) (i := 60) (u := p.1.toNat) (v := p.2.1.toNat) (by omega) (by omega) (by omega)
    rw [Int.toNat_of_nonneg (by omega), Int.toNat_of_nonneg (by omega)] at hm
    exact List.mem_map.mpr ⟨_, hm, rfl⟩
  rw [List.length_map, List.length_map, all0_len] at h2
  exact h2
theorem mkWA {K : PySem.W.Frag} {C : Addr} {H : Hp} {w n : Nat} {am : Int → Int → Int} {T : List T3} (hw : WebAt K C H w n T) (ht : TiesOf (n : Int) am T) (hn : n ≤ 60) (hb : ∀ u v, am u v ≤ 1000000000) : WA K C H w n am T :=
  ⟨hw, ht, hn, by have := ties_len60 ht hn; omega, hb⟩
theorem WA.but {K : PySem.W.Frag} {C b : Addr} {H H' : Hp} {w : Addr} {n : Nat} {am : Int → Int → Int} {T : List T3} {xb : List V} (h : WA K C H w n am T) (hb : H b = some (.lst xb)) (s : But b H H') : WA K C H' w n am T := ⟨h.web.butL hb s, h.ties, h.n60, h.len, h.bd⟩
/-- web[u, v], as it stands for an index -/
structure GetW (P : Program) (w : World) (K : PySem.W.Frag) (mg : Str → Option Value) (base : Heap) (C : Addr) (k : Nat) (fg : Addr) (dg : FuncData) : Prop where
  G : FnOk P w K mg base CX0 k fg dg ["self", "at"] (spGet K C)
  bG : Binds K dg ["self", "at"] []
  sG : PySem.W.findIn K (.ref C) "__getitem__" = some (some (.ref fg))
  nG : PySem.W.fnIn K fg = true
  iG : PySem.W.isFn K (.ref fg) = true
/-- == and != of webs -/
structure EqW (P : Program) (w : World) (K : PySem.W.Frag) (mg : Str → Option Value) (base : Heap) (C : Addr) (k : Nat) (fe : Addr) (de : FuncData) : Prop where
  Q : FnOk P w K mg base CX0 k fe de ["self", "other"] (spEqW K C)
  bQ : Binds K de ["self", "other"] []
  ty : ∀ (H : Hp) (a dx : Addr) (fs : List (Str × V)), H a = some (.ins C dx fs) → TyX K H (.ref a) (.ref C)
  nf : PySem.W.notFirst K C (.ref C) = true
  ne : PySem.W.findIn K (.ref C) "__ne__" = some (some (.builtin "object.__ne__"))
  ob : PySem.W.mroIn K C (.type "object") = some true
  sQ : PySem.W.findIn K (.ref C) "__eq__" = some (some (.ref fe))
  iQ : PySem.W.isFn K (.ref fe) = true
/-- == of two webs with their amounts -/
theorem eq_web {K : PySem.W.Frag} {C w1 w2 : Addr} {H : Hp} {n n2 : Nat} {am am2 : Int → Int → Int} {T T2 : List T3} {Q : V → Hp → Prop} {E : XK} (ty : ∀ (H : Hp) (a dx : Addr) (fs : List (Str × V)), H a = some (.ins C dx fs) → TyX K H (.ref a) (.ref C)) (nf : PySem.W.notFirst K C (.ref C) = true)
    (V1 : WA K C H w1 n am T) (V2 : WA K C H w2 n2 am2 T2) (hn : n = n2) (h : ∀ u v, am u v = am2 u v) (q : Q (.bl true) H) : rEqO K C (spEqW K C) E (.ref w1) (.ref w2) H Q := by
  obtain ⟨dx, t, ys, d, g, h1, _⟩ := V1.web.ex
  obtain ⟨dx2, t2, ys2, d2, g2, k1, _⟩ := V2.web.ex
  refine ⟨w1, dx, _, .ref C, rfl, h1, ty _ _ _ _ k1, nf, w1, n, T, .ref w2, rfl, V1.web, .inr ⟨w2, n2, T2, rfl, V2.web, true, ?_, q⟩⟩
  rw [decide_eq_true hn, decide_eq_true (V1.ties.eq V2.ties h)]
  rfl
/-- what is seen of an error's class where it is caught -/
structure ErrX (K : PySem.W.Frag) (c : Addr) : Prop where
  xf : XfC K c
  exm : PySem.W.exmOne K (.ref c) (.ref c) = some true
end T77
/-! The mathematics of turned bundles. -/
namespace T77
open PySem PySem.Spec PyProof.Rows L2 Wk Vb
/-- the sign of a pass -/
def sgn (s : Int) (k : Nat) : Int := if k % 2 = 0 then s else -s
def pas (s : Int) (ws : List Int) : List T3 := (List.range (ws.length - 1)).map fun i => (ws.getD i 0, ws.getD (i + 1) 0, sgn s i)
def addP (S : List T3) (p : T3) : List T3 := setS S (norm p).1 (norm p).2.1 (amt S (norm p).1 (norm p).2.1 + p.2.2)
def sumP (ps : List T3) : List T3 := ps.foldl addP []
theorem sumP_snoc {ps : List T3} {p : T3} : sumP (ps ++ [p]) = addP (sumP ps) p := by unfold sumP; rw [List.foldl_append]; rfl
theorem sums_foldl : ∀ (ps : List T3) (S l : List T3), SumsOf l S → SumsOf (l ++ ps.map norm) (ps.foldl addP S)
  | [], S, l, h => by rw [List.map_nil, List.append_nil]; exact h
  | p :: ps, S, l, h => by
    have := sums_foldl ps (addP S p) (l ++ [norm p]) h.put
    rw [List.append_assoc] at this
    exact this
theorem sumP_of (ps : List T3) : SumsOf (ps.map norm) (sumP ps) := by
  have := sums_foldl ps [] [] SumsOf.nil
  rwa [List.nil_append] at this
theorem pas_len {s : Int} {ws : List Int} : (pas s ws).length = ws.length - 1 := by unfold pas; rw [List.length_map, List.length_range]
theorem pas_get {s : Int} {ws : List Int} {i : Nat} (h : i < ws.length - 1) : (pas s ws)[i]? = some (ws.getD i 0, ws.getD (i + 1) 0, sgn s i) := by
  unfold pas
  rw [List.getElem?_map, List.getElem?_range h]
  rfl
theorem pas_take {s : Int} {ws : List Int} {i : Nat} (h : i < ws.length - 1) : (pas s ws).take (i + 1) = (pas s ws).take i ++ [(ws.getD i 0, ws.getD (i + 1) 0, sgn s i)] := by
  rw [List.take_add_one, pas_get h]
  rfl
/-- a walk along places -/
structure Walk (n : Nat) (ws : List Int) : Prop where
  mem : ∀ i, i < ws.length → 0 ≤ ws.getD i 0 ∧ ws.getD i 0 < (n : Int)
  ne : ∀ i, i + 1 < ws.length → ws.getD i 0 ≠ ws.getD (i + 1) 0
  len : ws.length ≤ 14
theorem Walk.pas {n : Nat} {ws : List Int} (h : Walk n ws) {s : Int} : ∀ p ∈ T77.pas s ws, 0 ≤ p.1 ∧ p.1 < (n : Int) ∧ 0 ≤ p.2.1 ∧ p.2.1 < (n : Int) ∧ p.1 ≠ p.2.1 ∧ (p.2.2 = s ∨ p.2.2 = -s) := fun p hp => by
  obtain ⟨i, hi, rfl⟩ := List.mem_map.mp hp
  have hi := List.mem_range.mp hi
  have a := h.mem i (by omega)
  have b := h.mem (i + 1) (by omega)
  have c := h.ne i (by omega)
  refine ⟨a.1, a.2, b.1, b.2, c, ?_⟩
  show sgn s i = s ∨ sgn s i = -s
  unfold sgn
  split
  · exact .inl rfl
  · exact .inr rfl
theorem norm_lt {p : T3} {n : Int} (h : 0 ≤ p.1 ∧ p.1 < n ∧ 0 ≤ p.2.1 ∧ p.2.1 < n ∧ p.1 ≠ p.2.1) : 0 ≤ (norm p).1 ∧ (norm p).1 < (norm p).2.1 ∧ (norm p).2.1 < n := by
  unfold norm
  dsimp only
  split <;> split <;> omega
theorem amt_le_len : ∀ {l : List T3}, (∀ p ∈ l, -1 ≤ p.2.2 ∧ p.2.2 ≤ 1) → ∀ u v, -(l.length : Int) ≤ amt l u v ∧ amt l u v ≤ l.length
  | [], _, u, v => by rw [amt_nil]; simp
  | p :: l, h, u, v => by
    have ih := amt_le_len (l := l) (fun q hq => h q (List.mem_cons_of_mem _ hq)) u v
    have := h p List.mem_cons_self
    rw [amt_cons, List.length_cons]
    split <;> omega
/-- the sums of a walk -/
structure SumW (n : Nat) (S : List T3) : Prop where
  dif : Dif S
  bd : ∀ p ∈ S, 0 ≤ p.1 ∧ p.1 < p.2.1 ∧ p.2.1 < (n : Int)
  val : ∀ p ∈ S, -14 ≤ p.2.2 ∧ p.2.2 ≤ 14
  len : S.length ≤ 14
theorem sumW_of {n : Nat} {ws : List Int} {s : Int} (h : Walk n ws) (hs : s = 1 ∨ s = -1) {k : Nat} : SumW n (sumP ((pas s ws).take k)) := by
  have hS := sumP_of ((pas s ws).take k)
  have hl := h.len
  have hps : ((pas s ws).take k).length ≤ 14 := by rw [List.length_take, pas_len]; omega
  have hp : ∀ p ∈ ((pas s ws).take k).map norm, (0 ≤ p.1 ∧ p.1 < p.2.1 ∧ p.2.1 < (n : Int)) ∧ -1 ≤ p.2.2 ∧ p.2.2 ≤ 1 := fun p hp => by
    obtain ⟨q, hq, rfl⟩ := List.mem_map.mp hp
    have a := h.pas q (List.mem_of_mem_take hq)
    refine ⟨norm_lt ⟨a.1, a.2.1, a.2.2.1, a.2.2.2.1, a.2.2.2.2.1⟩, ?_⟩
    have a := a.2.2.2.2.2
    show -1 ≤ q.2.2 ∧ q.2.2 ≤ 1
    omega
  refine ⟨hS.dif, fun p hq => ?_, fun p hq => ?_, by have := hS.len; rw [List.length_map] at this; omega⟩
  · obtain ⟨q, hq', k⟩ := hS.mem p hq
    have := (hp q hq').1
    unfold key at k
    omega
  · have a := dif_amt hS.dif hq
    rw [hS.am] at a
    have := amt_le_len (fun q hq => (hp q hq).2) p.1 p.2.1
    rw [List.length_map] at this
    omega
def negT (p : T3) : T3 := (p.1, p.2.1, -p.2.2)
theorem amt_neg : ∀ (l : List T3) (u v : Int), amt (l.map negT) u v = -amt l u v
  | [], u, v => by rw [List.map_nil, amt_nil]; rfl
  | p :: l, u, v => by
    rw [List.map_cons, amt_cons, amt_cons, amt_neg l]
    show (if p.1 = u ∧ p.2.1 = v then -p.2.2 else 0) + _ = _
    split <;> omega
theorem pas_neg {s : Int} {ws : List Int} : pas (-s) ws = (pas s ws).map negT := by
  unfold pas
  rw [List.map_map]
  refine List.map_congr_left fun i _ => ?_
  show _ = (ws.getD i 0, ws.getD (i + 1) 0, -sgn s i)
  unfold sgn
  split
  · rfl
  · rfl
/-- turned back: the sums with the other sign -/
theorem sum_back {s : Int} {ws : List Int} (u v : Int) : amt (sumP (pas (-s) ws)) u v = -amt (sumP (pas s ws)) u v := by
  rw [(sumP_of _).am, (sumP_of _).am, pas_neg, List.map_map, show norm ∘ negT = negT ∘ norm from rfl, ← List.map_map, amt_neg]
/-- whether a pair has a sum -/
def inS (S : List T3) (u v : Int) : Bool := S.any fun q => decide (q.1 = u ∧ q.2.1 = v)
theorem inS_iff {S : List T3} {u v : Int} : inS S u v = true ↔ ∃ q ∈ S, q.1 = u ∧ q.2.1 = v := by
  unfold inS
  rw [List.any_eq_true]
  exact ⟨fun ⟨q, a, b⟩ => ⟨q, a, of_decide_eq_true b⟩, fun ⟨q, a, b⟩ => ⟨q, a, decide_eq_true b⟩⟩
theorem inS_perm {S Z : List T3} (h : Z.Perm S) (u v : Int) : inS Z u v = inS S u v := by
  have : inS Z u v = true ↔ inS S u v = true := by
    rw [inS_iff, inS_iff]
    exact ⟨fun ⟨q, a, b⟩ => ⟨q, h.mem_iff.mp a, b⟩, fun ⟨q, a, b⟩ => ⟨q, h.mem_iff.mpr a, b⟩⟩
  cases e : inS Z u v <;> cases e' : inS S u v <;> simp_all
theorem amt_out {S : List T3} {u v : Int} (h : inS S u v = false) : amt S u v = 0 := amt_zero fun p hp k => by
  rw [inS_iff.mpr ⟨p, hp, k⟩] at h
  cases h
theorem amt_keep (S : List T3) : ∀ (T : List T3) (u v : Int), amt (T.filter fun p => !inS S p.1 p.2.1) u v = if inS S u v = true then 0 else amt T u v
  | [], u, v => by rw [List.filter_nil, amt_nil, ite_self]
  | p :: T, u, v => by
    have ih := amt_keep S T u v
    by_cases c : p.1 = u ∧ p.2.1 = v
    · cases e : inS S u v
      · rw [List.filter_cons_of_pos (by rw [c.1, c.2, e]; rfl), amt_cons, ih, e, amt_cons]
        rfl
      · rw [List.filter_cons_of_neg (by rw [c.1, c.2, e]; decide), ih, e]
        rfl
    · have e0 : amt (p :: T) u v = amt T u v := by rw [amt_cons, if_neg c, Int.zero_add]
      rw [e0]
      cases e : inS S p.1 p.2.1
      · rw [List.filter_cons_of_pos (by rw [e]; rfl), amt_cons, if_neg c, Int.zero_add, ih]
      · rw [List.filter_cons_of_neg (by rw [e]; decide), ih]
/-- the numbers of the changed bundles -/
def chg (f : Int → Int → Int) (Z : List T3) : List T3 := Z.map fun p => (p.1, p.2.1, f p.1 p.2.1 + p.2.2)
theorem amt_chg (f : Int → Int → Int) : ∀ {Z : List T3}, Dif Z → ∀ (u v : Int), amt (chg f Z) u v = if inS Z u v = true then f u v + amt Z u v else 0
  | [], _, u, v => by rfl
  | p :: Z, hd, u, v => by
    obtain ⟨h1, h2⟩ := List.pairwise_cons.mp hd
    have ih := amt_chg f h2 u v
    have e : chg f (p :: Z) = (p.1, p.2.1, f p.1 p.2.1 + p.2.2) :: chg f Z := rfl
    rw [e, amt_cons, ih, amt_cons]
    dsimp only
    have ei : inS (p :: Z) u v = (decide (p.1 = u ∧ p.2.1 = v) || inS Z u v) := rfl
    rw [ei]
    by_cases c : p.1 = u ∧ p.2.1 = v
    · have no : inS Z u v = false := by
        cases x : inS Z u v with
        | false => rfl
        | true =>
          obtain ⟨q, hq, k⟩ := inS_iff.mp x
          exact (h1 q hq ⟨c.1.trans k.1.symm, c.2.trans k.2.symm⟩).elim
      rw [no, if_pos c, if_pos c, decide_eq_true c, amt_out no, c.1, c.2]
      simp
    · rw [if_neg c, if_neg c, decide_eq_false c, Bool.false_or, Int.zero_add, Int.zero_add]
/-- the bundles behind a turn -/
theorem amt_turned {T S Z : List T3} {am : Int → Int → Int} (hT : ∀ u v, amt T u v = am u v) (hd : Dif S) (hZ : Z.Perm S) (u v : Int) :
    amt ((T.filter fun p => !inS S p.1 p.2.1) ++ chg am Z) u v = am u v + amt S u v := by
  rw [amt_append, amt_keep, amt_chg am (hd.perm hZ), inS_perm hZ, hT, amt_perm hZ]
  split
  · omega
  · rename_i h
    rw [amt_out (by simpa using h)]
theorem lt2_of {Z : List T3} (hd : Dif Z) (h : Z.Pairwise fun p q => lt2 p q ∨ key p q) : Z.Pairwise lt2 := (List.pairwise_and_iff.mpr ⟨h, hd⟩).imp fun {p q} k => k.1.resolve_right k.2
theorem sorted_one {S Z Z' : List T3} (h1 : Z.Perm S) (h2 : Z'.Perm S) (o1 : Z.Pairwise lt2) (o2 : Z'.Pairwise lt2) : Z = Z' := asc_ext o1 o2 fun p => h1.mem_iff.trans h2.mem_iff.symm
/-- the bundles of which there would be less than none, more than the most -/
def lowB (am : Int → Int → Int) (p : T3) : Bool := decide (am p.1 p.2.1 + p.2.2 < 0)
def highB (am : Int → Int → Int) (p : T3) : Bool := decide (am p.1 p.2.1 + p.2.2 > 1000000000)
end T77
/-! enumerate(zip(a, b)): a, b two lists or two tuples. -/
namespace Wk
open PySem PySem.Spec PyProof.Rows L2 RZ
open PySem.W (kdx_alive)
/-- a zip, its own tuple at hand or out -/
def ZipX (h : Heap) (z TI TO : Addr) : Prop := IsZip h z TI TO .none ∨ ∃ T f, IsZipHeld h z TI TO T f
theorem ZipX.ob {h : Heap} {z TI TO : Addr} (x : ZipX h z TI TO) : ∃ vs, h.get? z = some { cls := .type "zip", dict := none, data := .fields vs, slots := #[] } := by
  rcases x with x | ⟨_, _, x⟩
  · exact ⟨_, x⟩
  · exact ⟨_, x⟩
theorem ZipX.at {h h' : Heap} {z TI TO : Addr} (x : ZipX h z TI TO) (k : ∀ o, h.get? z = some o → h'.get? z = some o) : ZipX h' z TI TO := by
  rcases x with x | ⟨T, f, x⟩
  · exact .inl (k _ x)
  · exact .inr ⟨T, f, k _ x⟩
section
variable {prog : Program} {w : World} {A : Around} {E : Value → Shared → Prop} {s : Shared} {z TI TO i1 i2 : Addr} {fp1 fp2 : List Addr} {n1 n2 i : Nat} {P1 P2 : Nat → Value → Prop} {St1 St2 : Nat → Heap → Prop} {a1 a2 : Value}
theorem held_dead {T : Addr} {f : Bool} {Q : Bool → Shared → Prop} (hz : IsZipHeld s.heap z TI TO T f) (hT : s.heap.get? T = none) (h : Q true s) : wpAny (model prog w) A (Builtin.SmallTypes.ownedTupleIsFree (.ref z)) Q E s := by
  unfold Builtin.SmallTypes.ownedTupleIsFree
  refine wpAny_bind (wpAny_field hz rfl (x := rawInt T) rfl ?_)
  show wpAny _ _ (loadIfAlive ((T : Int).toNat) >>= _) _ _ _
  rw [Int.toNat_natCast]
  refine wpAny_bind (fun Γ p hΓ => ?_)
  show Sem.wp _ _ (.loadIfAlive T .pure) _ _ _ _
  rw [Sem.wp_loadIfAlive, hT]
  exact (wpAny_pure (by simp only [Option.isNone_none, if_true]; exact wpAny_pure h) : wpAny (model prog w) A (Sem.pure none) _ E s) Γ p hΓ
theorem zipE_item {Q : Value → Shared → Prop} (S : ZipSep2 z TI TO i1 i2 fp1 fp2) (D1 : Draws prog w A i1 fp1 n1 P1 St1) (D2 : Draws prog w A i2 fp2 n2 P2 St2)
    (hz : ZipX s.heap z TI TO) (hTI : IsTupOf2 s.heap TI (.ref i1) (.ref i2)) (hTO : IsTupOf2 s.heap TO a1 a2) (st1 : St1 i s.heap) (st2 : St2 i s.heap) (hlt1 : i < n1) (hlt2 : i < n2)
    (hQ : ∀ x1 x2 h' tk, P1 i x1 → P2 i x2 → ZipX h' z TI TO → (∃ b1 b2, IsTupOf2 h' TO b1 b2) → St1 (i + 1) h' → St2 (i + 1) h' → IsTupOf2 h' s.heap.objs.size x1 x2 → h'.objs.size = s.heap.objs.size + 1 →
      (∀ c o, c ≠ z → c ≠ TO → c ≠ i1 → c ≠ i2 → s.heap.get? c = some o → h'.get? c = some o) → Q (.ref s.heap.objs.size) { s with heap := h', toks := tk }) :
    wpAny (model prog w) A (Builtin.«zip.__next__» ⟨[.ref z], []⟩) (fun fin s' => ∃ v, fin = .done (.ret v) ∧ Q v s') E s := by
  rcases hz with hz | ⟨T, f, hz⟩
  · exact zipD2_next_item S D1 D2 hz hTI hTO st1 st2 hlt1 hlt2 fun x1 x2 h' tk p1 p2 z' o' q1 q2 t' sz k => hQ x1 x2 h' tk p1 p2 (.inr ⟨_, _, z'⟩) ⟨_, _, o'⟩ q1 q2 t' sz k
  obtain ⟨hp, g, d, tk0, os⟩ := s
  show wpAny _ _ (field (.ref z) 2 >>= _) _ _ _
  refine wpAny_bind (wpAny_field hz rfl (x := .bool false) rfl ?_)
  show wpAny _ _ (field (.ref z) 3 >>= _) _ _ _
  refine wpAny_bind (wpAny_field hz rfl (x := .ref TI) rfl ?_)
  refine wpAny_bind (wpAny_seqItems hTI rfl ?_)
  show wpAny _ _ (Builtin.SmallTypes.ownedTupleIsFree (.ref z) >>= _) _ _ _
  cases hT : (Shared.heap ⟨hp, g, d, tk0, os⟩).get? T with
  | some oT =>
    refine wpAny_bind (wpAny_tupleHeld_zip hz hT fun g0 hz0 hs0 => ?_)
    replace hs0 : Heap.SameBut z hp g0 := hs0
    simp only [Bool.false_eq_true, if_false]
    refine wpAny_bind ?_
    rw [← Array.forIn_toList]
    simp only [List.forIn_cons, List.forIn_nil]
    refine wpAny_bind (wpAny_bind (wpAny_holding ?_))
    show wpAny _ _ (Builtin.SmallTypes.nextOf (.ref i1) >>= _) _ _ ⟨g0, g, d, tk0, os⟩
    refine wpAny_bind (D1.item i _ _ _ hlt1 (D1.over st1 hs0 S.zf1) fun x1 p1 tk1 hx1 sn1 hp1 => wpAny_pure ?_)
    replace hp1 : Heap.SameBut i1 g0 p1 := hp1
    refine wpAny_pure ?_
    refine wpAny_bind (wpAny_bind (wpAny_holding ?_))
    show wpAny _ _ (Builtin.SmallTypes.nextOf (.ref i2) >>= _) _ _ ⟨p1, g, d, tk1, os⟩
    refine wpAny_bind (D2.item i _ _ _ hlt2 (D2.over (D2.over st2 hs0 S.zf2) hp1 S.sep1_2) fun x2 p2 tk2 hx2 sn2 hp2 => wpAny_pure ?_)
    replace hp2 : Heap.SameBut i2 p1 p2 := hp2
    refine wpAny_pure (wpAny_pure ?_)
    show wpAny _ _ (newTuple [x1, x2] >>= _) _ _ ⟨p2, g, d, tk2, os⟩
    refine wpAny_bind (wpAny_newTuple ?_)
    have hsz : p2.objs.size = hp.objs.size := by rw [hp2.1, hp1.1, hs0.1]
    have hzz : IsZipHeld p2 z TI TO T true := hp2.extBut _ _ S.zi2 (hp1.extBut _ _ S.zi1 hz0)
    have hkk : ∀ c o, c ≠ z → c ≠ TO → c ≠ i1 → c ≠ i2 → hp.get? c = some o → p2.get? c = some o := fun c o cz cT c1 c2 e => hp2.extBut _ _ c2 (hp1.extBut _ _ c1 (hs0.extBut _ _ cz e))
    have hj1 : St1 (i + 1) p2 := D1.over sn1 hp2 S.sep2_1
    have hTO2 : IsTupOf2 p2 TO a1 a2 := hp2.extBut _ _ S.Ti2 (hp1.extBut _ _ S.Ti1 (hs0.extBut _ _ S.TOz hTO))
    refine wpAny_pure ⟨_, rfl, ?_⟩
    show Q (.ref p2.objs.size) _
    have hT8 : IsTupOf2 (p2.push { cls := .type "tuple", data := .seq #[x1, x2] }) p2.objs.size x1 x2 := Heap.get?_push_size _ rfl
    have hz8 : (p2.push { cls := .type "tuple", data := .seq #[x1, x2] }).objs.size = p2.objs.size + 1 := Heap.size_push ..
    rw [hsz] at hT8 hz8 ⊢
    have up : ∀ c o, p2.get? c = some o → (p2.push { cls := .type "tuple", data := .seq #[x1, x2] }).get? c = some o := fun c o e => Heap.get?_push_of_some _ e
    exact hQ x1 x2 _ tk2 hx1 hx2 (.inr ⟨_, _, up _ _ hzz⟩) ⟨_, _, up _ _ hTO2⟩ (D1.frame _ _ _ hj1 fun b _ o e => up b o e) (D2.frame _ _ _ sn2 fun b _ o e => up b o e) hT8 hz8 fun c o cz cT c1 c2 e => up c o (hkk c o cz cT c1 c2 e)
  | none =>
    refine wpAny_bind (held_dead hz hT ?_)
    simp only [if_true]
    refine wpAny_bind (wpAny_rule ?_)
    refine wpAny_bind (wpAny_field hz rfl (x := .ref TO) rfl ?_)
    refine wpAny_bind (wpAny_setField_rec hz (by simp) fun g0 hz0 hs0 => ?_)
    replace hz0 : g0.get? z = some { cls := .type "zip", dict := none, data := .fields #[.ellipsis, .bool f, .bool false, .ref TI, .ref TO], slots := #[] } := hz0
    replace hs0 : Heap.SameBut z hp g0 := hs0
    refine wpAny_bind ?_
    simp only [List.zipIdx_cons, List.zipIdx_nil, List.forIn_cons, List.forIn_nil]
    refine wpAny_bind (wpAny_bind (wpAny_onRaise ?_))
    show wpAny _ _ (Builtin.SmallTypes.nextOf (.ref i1) >>= _) _ _ ⟨g0, g, d, tk0, os⟩
    refine wpAny_bind (D1.item i _ _ _ hlt1 (D1.over st1 hs0 S.zf1) fun x1 p1 tk1 hx1 sn1 hp1 => wpAny_pure ?_)
    replace hp1 : Heap.SameBut i1 g0 p1 := hp1
    have hU1 : IsTupOf2 p1 TO a1 a2 := hp1.extBut _ _ S.Ti1 (hs0.extBut _ _ S.TOz hTO)
    refine wpAny_bind (wpAny_seqItems (s := ⟨p1, g, d, tk1, os⟩) hU1 rfl ?_)
    refine wpAny_bind (updateSeq_IsTupOf2 (s := ⟨p1, g, d, tk1, os⟩) hU1 fun g1 hT1 hs1 => ?_)
    replace hT1 : IsTupOf2 g1 TO x1 a2 := hT1
    replace hs1 : Heap.SameBut TO p1 g1 := hs1
    refine wpAny_bind (wpAny_letGo (wpAny_pure ?_))
    refine wpAny_bind (wpAny_bind (wpAny_onRaise ?_))
    show wpAny _ _ (Builtin.SmallTypes.nextOf (.ref i2) >>= _) _ _ ⟨g1, g, d, tk1, os⟩
    refine wpAny_bind (D2.item i _ _ _ hlt2 (D2.over (D2.over (D2.over st2 hs0 S.zf2) hp1 S.sep1_2) hs1 S.Tf2) fun x2 p2 tk2 hx2 sn2 hp2 => wpAny_pure ?_)
    replace hp2 : Heap.SameBut i2 g1 p2 := hp2
    have hU2 : IsTupOf2 p2 TO x1 a2 := hp2.extBut _ _ S.Ti2 hT1
    refine wpAny_bind (wpAny_seqItems (s := ⟨p2, g, d, tk2, os⟩) hU2 rfl ?_)
    refine wpAny_bind (updateSeq_IsTupOf2 (s := ⟨p2, g, d, tk2, os⟩) hU2 fun g2 hT2 hs2 => ?_)
    replace hT2 : IsTupOf2 g2 TO x1 x2 := hT2
    replace hs2 : Heap.SameBut TO p2 g2 := hs2
    refine wpAny_bind (wpAny_letGo (wpAny_pure (wpAny_pure ?_)))
    refine wpAny_bind (wpAny_seqItems (s := ⟨g2, g, d, tk2, os⟩) hT2 rfl ?_)
    refine wpAny_bind (wpAny_newTuple ?_)
    have hsz : g2.objs.size = hp.objs.size := by rw [hs2.1, hp2.1, hs1.1, hp1.1, hs0.1]
    have hzz : g2.get? z = some { cls := .type "zip", dict := none, data := .fields #[.ellipsis, .bool f, .bool false, .ref TI, .ref TO], slots := #[] } := (hs2.extBut _ _ S.TOz.symm (hp2.extBut _ _ S.zi2 (hs1.extBut _ _ S.TOz.symm (hp1.extBut _ _ S.zi1 hz0))))
    have hkk : ∀ c o, c ≠ z → c ≠ TO → c ≠ i1 → c ≠ i2 → hp.get? c = some o → g2.get? c = some o := fun c o cz cT c1 c2 e =>
      (hs2.extBut _ _ cT (hp2.extBut _ _ c2 (hs1.extBut _ _ cT (hp1.extBut _ _ c1 (hs0.extBut _ _ cz e)))))
    have hj1 : St1 (i + 1) g2 := (D1.over (D1.over (D1.over sn1 hs1 S.Tf1) hp2 S.sep2_1) hs2 S.Tf1)
    have hj2 : St2 (i + 1) g2 := (D2.over sn2 hs2 S.Tf2)
    have hzlt : z < g2.objs.size := Heap.lt_size hzz
    show wpAny _ _ (Builtin.SmallTypes.ownedTupleHandOut (.ref z) (.ref g2.objs.size) >>= _) _ _ ⟨g2.push { cls := .type "tuple", data := .seq #[x1, x2] }, g, d, tk2, os⟩
    refine wpAny_bind ?_
    unfold Builtin.SmallTypes.ownedTupleHandOut
    have hz6 : (g2.push { cls := .type "tuple", data := .seq #[x1, x2] }).get? z = some { cls := .type "zip", dict := none, data := .fields #[.ellipsis, .bool f, .bool false, .ref TI, .ref TO], slots := #[] } := Heap.get?_push_of_some _ hzz
    refine wpAny_bind (wpAny_setField_rec (s := ⟨g2.push { cls := .type "tuple", data := .seq #[x1, x2] }, g, d, tk2, os⟩) hz6 (by simp) fun h7 hz7 hs7 => ?_)
    replace hz7 : h7.get? z = some { cls := .type "zip", dict := none, data := .fields #[rawInt g2.objs.size, .bool f, .bool false, .ref TI, .ref TO], slots := #[] } := hz7
    replace hs7 : Heap.SameBut z (g2.push { cls := .type "tuple", data := .seq #[x1, x2] }) h7 := hs7
    refine wpAny_setField_rec (s := ⟨h7, g, d, tk2, os⟩) hz7 (by simp) fun h8 hz8 hs8 => ?_
    replace hz8 : IsZip h8 z TI TO (rawInt g2.objs.size) := hz8
    replace hs8 : Heap.SameBut z h7 h8 := hs8
    have up : ∀ c o, c ≠ z → g2.get? c = some o → h8.get? c = some o := fun c o c1 e => hs8.extBut _ _ c1 (hs7.extBut _ _ c1 (Heap.get?_push_of_some _ e))
    have hT8 : IsTupOf2 h8 g2.objs.size x1 x2 := hs8.extBut _ _ (Nat.ne_of_gt hzlt) (hs7.extBut _ _ (Nat.ne_of_gt hzlt) (Heap.get?_push_size _ rfl))
    have hzs : h8.objs.size = g2.objs.size + 1 := by rw [hs8.1, hs7.1, Heap.size_push]
    rw [hsz] at hz8 hT8 hzs
    refine wpAny_pure ⟨_, rfl, ?_⟩
    show Q (.ref g2.objs.size) ⟨h8, g, d, tk2, os⟩
    rw [hsz]
    exact hQ x1 x2 h8 tk2 hx1 hx2 (.inr ⟨_, _, hz8⟩) ⟨_, _, up _ _ S.TOz hT2⟩ (D1.frame _ _ _ hj1 fun b hb o e => up b o (fun q => S.zf1 (q ▸ hb)) e) (D2.frame _ _ _ hj2 fun b hb o e => up b o (fun q => S.zf2 (q ▸ hb)) e) hT8 hzs fun c o cz cT c1 c2 e => up c o cz (hkk c o cz cT c1 c2 e)
theorem zipE_end {Q : Fin → Shared → Prop} (S : ZipSep2 z TI TO i1 i2 fp1 fp2) (D1 : Draws prog w A i1 fp1 n1 P1 St1) (D2 : Draws prog w A i2 fp2 n2 P2 St2)
    (hz : ZipX s.heap z TI TO) (hTI : IsTupOf2 s.heap TI (.ref i1) (.ref i2)) (hTO : IsTupOf2 s.heap TO a1 a2) (st1 : St1 i s.heap) (st2 : St2 i s.heap) (hle1 : i ≤ n1) (hle2 : i ≤ n2) (hend : i = n1 ∨ i = n2)
    (hE : ∀ h' tk e, (∀ c o, c ≠ z → c ≠ TO → c ≠ i1 → c ≠ i2 → s.heap.get? c = some o → h'.get? c = some o) → (∃ o, h'.get? e = some o ∧ o.cls = .type "StopIteration") → E (.ref e) { s with heap := h', toks := tk }) :
    wpAny (model prog w) A (Builtin.«zip.__next__» ⟨[.ref z], []⟩) Q E s := by
  rcases hz with hz | ⟨T, f, hz⟩
  · exact zipD2_next_end S D1 D2 hz hTI hTO st1 st2 hle1 hle2 hend hE
  obtain ⟨hp, g, d, tk0, os⟩ := s
  show wpAny _ _ (field (.ref z) 2 >>= _) _ _ _
  refine wpAny_bind (wpAny_field hz rfl (x := .bool false) rfl ?_)
  show wpAny _ _ (field (.ref z) 3 >>= _) _ _ _
  refine wpAny_bind (wpAny_field hz rfl (x := .ref TI) rfl ?_)
  refine wpAny_bind (wpAny_seqItems hTI rfl ?_)
  show wpAny _ _ (Builtin.SmallTypes.ownedTupleIsFree (.ref z) >>= _) _ _ _
  cases hT : (Shared.heap ⟨hp, g, d, tk0, os⟩).get? T with
  | some oT =>
    refine wpAny_bind (wpAny_tupleHeld_zip hz hT fun g0 hz0 hs0 => ?_)
    replace hs0 : Heap.SameBut z hp g0 := hs0
    simp only [Bool.false_eq_true, if_false]
    refine wpAny_bind ?_
    rw [← Array.forIn_toList]
    simp only [List.forIn_cons, List.forIn_nil]
    refine wpAny_bind (wpAny_bind (wpAny_holding ?_))
    show wpAny _ _ (Builtin.SmallTypes.nextOf (.ref i1) >>= _) _ _ ⟨g0, g, d, tk0, os⟩
    by_cases hlt1 : i < n1
    · refine wpAny_bind (D1.item i _ _ _ hlt1 (D1.over st1 hs0 S.zf1) fun x1 p1 tk1 hx1 sn1 hp1 => wpAny_pure ?_)
      replace hp1 : Heap.SameBut i1 g0 p1 := hp1
      refine wpAny_pure ?_
      have hi2 : i = n2 := by omega
      refine wpAny_bind (wpAny_bind (wpAny_holding ?_))
      show wpAny _ _ (Builtin.SmallTypes.nextOf (.ref i2) >>= _) _ _ ⟨p1, g, d, tk1, os⟩
      refine wpAny_bind (D2.done ⟨p1, g, d, tk1, os⟩ _ _ (by rw [← hi2]; exact D2.over (D2.over st2 hs0 S.zf2) hp1 S.sep1_2) fun q e hq he => ?_)
      replace hq : Heap.ExtBut i2 p1 q := hq
      exact hE q tk1 e (fun c o cz cT c1 c2 x => hq _ _ c2 (hp1.extBut _ _ c1 (hs0.extBut _ _ cz x))) he
    · have hi1 : i = n1 := by omega
      refine wpAny_bind (D1.done ⟨g0, g, d, tk0, os⟩ _ _ (by rw [← hi1]; exact D1.over st1 hs0 S.zf1) fun q e hq he => ?_)
      replace hq : Heap.ExtBut i1 g0 q := hq
      exact hE q tk0 e (fun c o cz cT c1 c2 x => hq _ _ c1 (hs0.extBut _ _ cz x)) he
  | none =>
    refine wpAny_bind (held_dead hz hT ?_)
    simp only [if_true]
    refine wpAny_bind (wpAny_rule ?_)
    refine wpAny_bind (wpAny_field hz rfl (x := .ref TO) rfl ?_)
    refine wpAny_bind (wpAny_setField_rec hz (by simp) fun g0 hz0 hs0 => ?_)
    replace hz0 : g0.get? z = some { cls := .type "zip", dict := none, data := .fields #[.ellipsis, .bool f, .bool false, .ref TI, .ref TO], slots := #[] } := hz0
    replace hs0 : Heap.SameBut z hp g0 := hs0
    refine wpAny_bind ?_
    simp only [List.zipIdx_cons, List.zipIdx_nil, List.forIn_cons, List.forIn_nil]
    refine wpAny_bind (wpAny_bind (wpAny_onRaise ?_))
    show wpAny _ _ (Builtin.SmallTypes.nextOf (.ref i1) >>= _) _ _ ⟨g0, g, d, tk0, os⟩
    by_cases hlt1 : i < n1
    · refine wpAny_bind (D1.item i _ _ _ hlt1 (D1.over st1 hs0 S.zf1) fun x1 p1 tk1 hx1 sn1 hp1 => wpAny_pure ?_)
      replace hp1 : Heap.SameBut i1 g0 p1 := hp1
      have hU1 : IsTupOf2 p1 TO a1 a2 := hp1.extBut _ _ S.Ti1 (hs0.extBut _ _ S.TOz hTO)
      refine wpAny_bind (wpAny_seqItems (s := ⟨p1, g, d, tk1, os⟩) hU1 rfl ?_)
      refine wpAny_bind (updateSeq_IsTupOf2 (s := ⟨p1, g, d, tk1, os⟩) hU1 fun g1 hT1 hs1 => ?_)
      replace hs1 : Heap.SameBut TO p1 g1 := hs1
      refine wpAny_bind (wpAny_letGo (wpAny_pure ?_))
      have hi2 : i = n2 := by omega
      refine wpAny_bind (wpAny_bind (wpAny_onRaise ?_))
      show wpAny _ _ (Builtin.SmallTypes.nextOf (.ref i2) >>= _) _ _ ⟨g1, g, d, tk1, os⟩
      refine wpAny_bind (D2.done ⟨g1, g, d, tk1, os⟩ _ _ (by rw [← hi2]; exact (D2.over (D2.over (D2.over st2 hs0 S.zf2) hp1 S.sep1_2) hs1 S.Tf2)) fun q e hq he => ?_)
      replace hq : Heap.ExtBut i2 g1 q := hq
      obtain ⟨oe, hoe, hce⟩ := he
      replace hoe : q.get? e = some oe := hoe
      have hzq := hq _ _ S.zi2 (hs1.extBut _ _ S.TOz.symm (hp1.extBut _ _ S.zi1 hz0))
      have hez : e ≠ z := fun x => by subst x; rw [hzq] at hoe; cases hoe; simp at hce
      refine wpAny_setField_rec (s := ⟨q, g, d, tk1, os⟩) hzq (by simp) fun q' _ hq' => ?_
      replace hq' : Heap.SameBut z q q' := hq'
      exact hE q' tk1 e (fun c o cz cT c1 c2 x => hq'.extBut _ _ cz (hq _ _ c2 (hs1.extBut _ _ cT (hp1.extBut _ _ c1 (hs0.extBut _ _ cz x))))) ⟨oe, hq'.extBut _ _ hez hoe, hce⟩
    · have hi1 : i = n1 := by omega
      refine wpAny_bind (D1.done ⟨g0, g, d, tk0, os⟩ _ _ (by rw [← hi1]; exact (D1.over st1 hs0 S.zf1)) fun q e hq he => ?_)
      replace hq : Heap.ExtBut i1 g0 q := hq
      obtain ⟨oe, hoe, hce⟩ := he
      replace hoe : q.get? e = some oe := hoe
      have hzq := hq _ _ S.zi1 hz0
      have hez : e ≠ z := fun x => by subst x; rw [hzq] at hoe; cases hoe; simp at hce
      refine wpAny_setField_rec (s := ⟨q, g, d, tk0, os⟩) hzq (by simp) fun q' _ hq' => ?_
      replace hq' : Heap.SameBut z q q' := hq'
      exact hE q' tk0 e (fun c o cz cT c1 c2 x => hq'.extBut _ _ cz (hq _ _ c1 (hs0.extBut _ _ cz x))) ⟨oe, hq'.extBut _ _ hez hoe, hce⟩
/-- next of such a zip -/
theorem zipE_nextOf {Q : Value → Shared → Prop} (S : ZipSep2 z TI TO i1 i2 fp1 fp2) (D1 : Draws prog w A.in1 i1 fp1 n1 P1 St1) (D2 : Draws prog w A.in1 i2 fp2 n2 P2 St2)
    (hz : ZipX s.heap z TI TO) (hTI : IsTupOf2 s.heap TI (.ref i1) (.ref i2)) (hTO : IsTupOf2 s.heap TO a1 a2) (st1 : St1 i s.heap) (st2 : St2 i s.heap) (hlt1 : i < n1) (hlt2 : i < n2)
    (hQ : ∀ x1 x2 h' tk, P1 i x1 → P2 i x2 → ZipX h' z TI TO → (∃ b1 b2, IsTupOf2 h' TO b1 b2) → St1 (i + 1) h' → St2 (i + 1) h' → IsTupOf2 h' s.heap.objs.size x1 x2 → h'.objs.size = s.heap.objs.size + 1 →
      (∀ c o, c ≠ z → c ≠ TO → c ≠ i1 → c ≠ i2 → s.heap.get? c = some o → h'.get? c = some o) → Q (.ref s.heap.objs.size) { s with heap := h', toks := tk }) :
    wpAny (model prog w) A (Builtin.SmallTypes.nextOf (.ref z)) Q E s := by
  obtain ⟨vs, hzo⟩ := hz.ob
  have hT : s.TypeIs (.ref z) "zip" := ⟨_, hzo, rfl⟩
  unfold Builtin.SmallTypes.nextOf
  exact wpAny_bind (wpAny_callSpecial?_slot (name := Str.ofString "__next__") hT F.slot_zip_next
    (wpAny_call_entry F.slot_zip_next hT F.entry_zip_next
      (zipE_item S D1 D2 hz hTI hTO st1 st2 hlt1 hlt2 fun x1 x2 h' tk y1 y2 b1 b2 d1 d2 b5 b6 b7 => wpAny_pure (hQ x1 x2 h' tk y1 y2 b1 b2 d1 d2 b5 b6 b7)) (F.args_zip_next_1 _)))
theorem zipE_nextOf_end {Q : Value → Shared → Prop} (S : ZipSep2 z TI TO i1 i2 fp1 fp2) (D1 : Draws prog w A.in1 i1 fp1 n1 P1 St1) (D2 : Draws prog w A.in1 i2 fp2 n2 P2 St2)
    (hz : ZipX s.heap z TI TO) (hTI : IsTupOf2 s.heap TI (.ref i1) (.ref i2)) (hTO : IsTupOf2 s.heap TO a1 a2) (st1 : St1 i s.heap) (st2 : St2 i s.heap) (hle1 : i ≤ n1) (hle2 : i ≤ n2) (hend : i = n1 ∨ i = n2)
    (hE : ∀ h' tk e, (∀ c o, c ≠ z → c ≠ TO → c ≠ i1 → c ≠ i2 → s.heap.get? c = some o → h'.get? c = some o) → (∃ o, h'.get? e = some o ∧ o.cls = .type "StopIteration") → E (.ref e) { s with heap := h', toks := tk }) :
    wpAny (model prog w) A (Builtin.SmallTypes.nextOf (.ref z)) Q E s := by
  obtain ⟨vs, hzo⟩ := hz.ob
  have hT : s.TypeIs (.ref z) "zip" := ⟨_, hzo, rfl⟩
  unfold Builtin.SmallTypes.nextOf
  exact wpAny_bind (wpAny_callSpecial?_slot (name := Str.ofString "__next__") hT F.slot_zip_next
    (wpAny_call_entry F.slot_zip_next hT F.entry_zip_next (zipE_end S D1 D2 hz hTI hTO st1 st2 hle1 hle2 hend hE) (F.args_zip_next_1 _)))
/-- an enumerate's cells lie apart from the zip's -/
structure EnumSep (e z TI TO i1 i2 : Addr) (fp1 fp2 : List Addr) : Prop where
  ez : e ≠ z
  eTI : e ≠ TI
  eTO : e ≠ TO
  e1 : e ∉ fp1
  e2 : e ∉ fp2
theorem enumZ_item {e : Addr} {old : Value} {Q : Value → Shared → Prop} (S : ZipSep2 z TI TO i1 i2 fp1 fp2) (Z : EnumSep e z TI TO i1 i2 fp1 fp2) (D1 : Draws prog w A.in1 i1 fp1 n1 P1 St1) (D2 : Draws prog w A.in1 i2 fp2 n2 P2 St2)
    (he : IsEnum s.heap e z i old) (hz : ZipX s.heap z TI TO) (hTI : IsTupOf2 s.heap TI (.ref i1) (.ref i2)) (hTO : IsTupOf2 s.heap TO a1 a2) (st1 : St1 i s.heap) (st2 : St2 i s.heap) (hlt1 : i < n1) (hlt2 : i < n2)
    (hQ : ∀ x1 x2 h' tk, P1 i x1 → P2 i x2 → IsEnumOut h' e z ((i : Int) + 1) (.ref s.heap.objs.size) (s.heap.objs.size + 1) → ZipX h' z TI TO → (∃ b1 b2, IsTupOf2 h' TO b1 b2) → St1 (i + 1) h' → St2 (i + 1) h' →
      IsTupOf2 h' s.heap.objs.size x1 x2 → h'.get? (s.heap.objs.size + 1) = some { cls := .type "tuple", data := .seq #[.int i tk, .ref s.heap.objs.size] } →
      (∀ c o, c ≠ e → c ≠ z → c ≠ TO → c ≠ i1 → c ≠ i2 → s.heap.get? c = some o → h'.get? c = some o) → Q (.ref (s.heap.objs.size + 1)) { s with heap := h', toks := tk + 1 }) :
    wpAny (model prog w) A (Builtin.«enumerate.__next__» ⟨[.ref e], []⟩) (fun fin s' => ∃ v, fin = .done (.ret v) ∧ Q v s') E s := by
  obtain ⟨hp, g, d, tk₀, os⟩ := s
  have ei1 : e ≠ i1 := fun q => Z.e1 (by rw [q]; exact S.mem1)
  have ei2 : e ≠ i2 := fun q => Z.e2 (by rw [q]; exact S.mem2)
  show wpAny _ _ (field (.ref e) 2 >>= _) _ _ _
  refine wpAny_bind (wpAny_field he rfl (x := .ref z) rfl ?_)
  refine wpAny_bind (zipE_nextOf S D1 D2 hz hTI hTO st1 st2 hlt1 hlt2 fun x1 x2 h₁ tk y1 y2 z₁ o₁ q₁ q₂ t₁ sz₁ k₁ => ?_)
  replace k₁ : ∀ c o, c ≠ z → c ≠ TO → c ≠ i1 → c ≠ i2 → hp.get? c = some o → h₁.get? c = some o := k₁
  replace sz₁ : h₁.objs.size = hp.objs.size + 1 := sz₁
  replace t₁ : IsTupOf2 h₁ hp.objs.size x1 x2 := t₁
  show wpAny _ _ (field (.ref e) 3 >>= _) _ _ ⟨h₁, g, d, tk, os⟩
  have he₁ : IsEnum h₁ e z i old := k₁ _ _ Z.ez Z.eTO ei1 ei2 he
  refine wpAny_bind (wpAny_field he₁ rfl (x := rawInt i) rfl ?_)
  show wpAny _ _ (field (.ref e) 4 >>= _) _ _ ⟨h₁, g, d, tk, os⟩
  refine wpAny_bind (wpAny_field he₁ rfl (x := .none) rfl ?_)
  show wpAny _ _ (mkInt i >>= _) _ _ ⟨h₁, g, d, tk, os⟩
  refine wpAny_bind (wpAny_mkInt ?_)
  show wpAny _ _ (setField (.ref e) 3 (rawInt ((i : Int) + 1)) >>= _) _ _ ⟨h₁, g, d, tk + 1, os⟩
  refine wpAny_bind (wpAny_setField_rec he₁ (by simp) fun h₂ he₂ hs₂ => ?_)
  replace hs₂ : Heap.SameBut e h₁ h₂ := hs₂
  replace he₂ : IsEnum h₂ e z ((i : Int) + 1) old := he₂
  show wpAny _ _ (setField (.ref e) 4 .none >>= _) _ _ ⟨h₂, g, d, tk + 1, os⟩
  refine wpAny_bind (wpAny_setField_rec he₂ (by simp) fun h₃ he₃ hs₃ => ?_)
  replace hs₃ : Heap.SameBut e h₂ h₃ := hs₃
  replace he₃ : IsEnum h₃ e z ((i : Int) + 1) old := he₃
  show wpAny _ _ (newTuple [.int i tk, .ref hp.objs.size] >>= _) _ _ ⟨h₃, g, d, tk + 1, os⟩
  refine wpAny_bind (wpAny_newTuple ?_)
  have he₄ : IsEnum (h₃.push { cls := .type "tuple", data := .seq #[.int i tk, .ref hp.objs.size] }) e z ((i : Int) + 1) old := Heap.get?_push_of_some _ he₃
  have up₄ : ∀ c o, c ≠ e → h₁.get? c = some o → (h₃.push { cls := .type "tuple", data := .seq #[.int i tk, .ref hp.objs.size] }).get? c = some o := fun c o ce x => Heap.get?_push_of_some _ (hs₃.extBut _ _ ce (hs₂.extBut _ _ ce x))
  have hsz : h₃.objs.size = hp.objs.size + 1 := by rw [hs₃.1, hs₂.1, sz₁]
  have ht₄ : (h₃.push { cls := .type "tuple", data := .seq #[.int i tk, .ref hp.objs.size] }).get? (hp.objs.size + 1) = some { cls := .type "tuple", data := .seq #[.int i tk, .ref hp.objs.size] } := by rw [← hsz]; exact Heap.get?_push_size _ rfl
  have hel : e < hp.objs.size := Heap.lt_size he
  have ne7 : hp.objs.size + 1 ≠ e := Nat.ne_of_gt (Nat.lt_succ_of_lt hel)
  show wpAny _ _ (Builtin.SmallTypes.ownedTupleIsFree (.ref e) >>= _) _ _ ⟨h₃.push { cls := .type "tuple", data := .seq #[.int i tk, .ref hp.objs.size] }, g, d, tk + 1, os⟩
  generalize (h₃.push { cls := .type "tuple", data := .seq #[.int i tk, .ref hp.objs.size] }) = h₄ at he₄ up₄ ht₄
  rw [hsz]
  refine wpAny_bind ?_
  unfold Builtin.SmallTypes.ownedTupleIsFree
  refine wpAny_bind (wpAny_field he₄ rfl (x := .none) rfl (wpAny_pure ?_))
  simp only [if_true]
  refine wpAny_bind (wpAny_rule ?_)
  refine wpAny_bind (wpAny_field he₄ rfl (x := old) rfl ?_)
  refine wpAny_bind (wpAny_setField_rec (s := ⟨h₄, g, d, tk + 1, os⟩) he₄ (by simp) fun h₅ he₅ hs₅ => ?_)
  replace hs₅ : Heap.SameBut e h₄ h₅ := hs₅
  replace he₅ : IsEnum h₅ e z ((i : Int) + 1) (.ref hp.objs.size) := he₅
  show wpAny _ _ (Builtin.SmallTypes.ownedTupleHandOut (.ref e) (.ref (hp.objs.size + 1)) >>= _) _ _ ⟨h₅, g, d, tk + 1, os⟩
  refine wpAny_bind ?_
  unfold Builtin.SmallTypes.ownedTupleHandOut
  refine wpAny_bind (wpAny_setField_rec (s := ⟨h₅, g, d, tk + 1, os⟩) he₅ (by simp) fun h₆ he₆ hs₆ => ?_)
  replace hs₆ : Heap.SameBut e h₅ h₆ := hs₆
  replace he₆ : IsEnumOut h₆ e z ((i : Int) + 1) (.ref hp.objs.size) (hp.objs.size + 1) := he₆
  refine wpAny_setField_rec (s := ⟨h₆, g, d, tk + 1, os⟩) he₆ (by simp) fun h₇ he₇ hs₇ => ?_
  replace hs₇ : Heap.SameBut e h₆ h₇ := hs₇
  replace he₇ : IsEnumOut h₇ e z ((i : Int) + 1) (.ref hp.objs.size) (hp.objs.size + 1) := he₇
  have up : ∀ c o, c ≠ e → h₁.get? c = some o → h₇.get? c = some o := fun c o ce x => hs₇.extBut _ _ ce (hs₆.extBut _ _ ce (hs₅.extBut _ _ ce (up₄ c o ce x)))
  refine wpAny_bind (wpAny_letGo (wpAny_pure ⟨_, rfl, ?_⟩))
  obtain ⟨b1, b2, o₁⟩ := o₁
  refine hQ x1 x2 h₇ tk y1 y2 he₇ (z₁.at fun o x => up _ o (Ne.symm Z.ez) x) ⟨b1, b2, up _ _ (Ne.symm Z.eTO) o₁⟩ (D1.frame _ _ _ q₁ fun b hb o x => up b o (fun q => Z.e1 (q ▸ hb)) x) (D2.frame _ _ _ q₂ fun b hb o x => up b o (fun q => Z.e2 (q ▸ hb)) x)
    (up _ _ (Nat.ne_of_gt hel) t₁) (hs₇.extBut _ _ ne7 (hs₆.extBut _ _ ne7 (hs₅.extBut _ _ ne7 ht₄))) fun c o ce cz cT c1 c2 x => up c o ce (k₁ c o cz cT c1 c2 x)
theorem next_enumZ {e : Addr} {old : Value} {Q : Option Value → Shared → Prop} (S : ZipSep2 z TI TO i1 i2 fp1 fp2) (Z : EnumSep e z TI TO i1 i2 fp1 fp2) (D1 : Draws prog w A.in1.in1 i1 fp1 n1 P1 St1) (D2 : Draws prog w A.in1.in1 i2 fp2 n2 P2 St2)
    (he : IsEnum s.heap e z i old) (hz : ZipX s.heap z TI TO) (hTI : IsTupOf2 s.heap TI (.ref i1) (.ref i2)) (hTO : IsTupOf2 s.heap TO a1 a2) (st1 : St1 i s.heap) (st2 : St2 i s.heap) (hlt1 : i < n1) (hlt2 : i < n2)
    (hQ : ∀ x1 x2 h' tk, P1 i x1 → P2 i x2 → IsEnumOut h' e z ((i : Int) + 1) (.ref s.heap.objs.size) (s.heap.objs.size + 1) → ZipX h' z TI TO → (∃ b1 b2, IsTupOf2 h' TO b1 b2) → St1 (i + 1) h' → St2 (i + 1) h' →
      IsTupOf2 h' s.heap.objs.size x1 x2 → h'.get? (s.heap.objs.size + 1) = some { cls := .type "tuple", data := .seq #[.int i tk, .ref s.heap.objs.size] } →
      (∀ c o, c ≠ e → c ≠ z → c ≠ TO → c ≠ i1 → c ≠ i2 → s.heap.get? c = some o → h'.get? c = some o) → Q (some (.ref (s.heap.objs.size + 1))) { s with heap := h', toks := tk + 1 }) :
    wpAny (model prog w) A (pyNext (.ref e)) Q E s := by
  have hT : s.TypeIs (.ref e) "enumerate" := ⟨_, he, rfl⟩
  unfold pyNext
  exact wpAny_bind (wpAny_attempt (wpAny_callSpecial?_slot (name := Str.ofString "__next__") hT F.slot_enumerate_next
    (wpAny_call_entry F.slot_enumerate_next hT F.entry_enumerate_next
      (enumZ_item S Z D1 D2 he hz hTI hTO st1 st2 hlt1 hlt2 fun x1 x2 h' tk a b c d e' f g' h i' j => wpAny_pure (hQ x1 x2 h' tk a b c d e' f g' h i' j)) (F.args_enumerate_next_1 _))))
theorem next_enumZ_end {e : Addr} {old : Value} {Q : Option Value → Shared → Prop} (S : ZipSep2 z TI TO i1 i2 fp1 fp2) (D1 : Draws prog w A.in1.in1 i1 fp1 n1 P1 St1) (D2 : Draws prog w A.in1.in1 i2 fp2 n2 P2 St2)
    (he : IsEnum s.heap e z i old) (hz : ZipX s.heap z TI TO) (hTI : IsTupOf2 s.heap TI (.ref i1) (.ref i2)) (hTO : IsTupOf2 s.heap TO a1 a2) (st1 : St1 i s.heap) (st2 : St2 i s.heap) (hle1 : i ≤ n1) (hle2 : i ≤ n2) (hend : i = n1 ∨ i = n2)
    (hQ : ∀ h' tk, (∀ c o, c ≠ z → c ≠ TO → c ≠ i1 → c ≠ i2 → s.heap.get? c = some o → h'.get? c = some o) → Q none { s with heap := h', toks := tk }) :
    wpAny (model prog w) A (pyNext (.ref e)) Q E s := by
  have hT : s.TypeIs (.ref e) "enumerate" := ⟨_, he, rfl⟩
  unfold pyNext
  refine wpAny_bind (wpAny_attempt (wpAny_callSpecial?_slot (name := Str.ofString "__next__") hT F.slot_enumerate_next
    (wpAny_call_entry F.slot_enumerate_next hT F.entry_enumerate_next ?_ (F.args_enumerate_next_1 _))))
  show wpAny _ _ (field (.ref e) 2 >>= _) _ _ _
  refine wpAny_bind (wpAny_field he rfl (x := .ref z) rfl ?_)
  refine wpAny_bind (zipE_nextOf_end S D1 D2 hz hTI hTO st1 st2 hle1 hle2 hend fun h' tk x hk hx => ?_)
  obtain ⟨o, ho, hc⟩ := hx
  refine wpAny_bind (wpAny_isInstance (T := "StopIteration") (b := true) ⟨o, ho, hc⟩ isSubtype_stop ?_)
  exact wpAny_pure (hQ _ _ hk)
end
end Wk
/-! enumerate(zip(a, b)) as a walk. -/
namespace Wk
open PySem PySem.Spec PyProof.Rows L2 RZ
open AutoSeq1 (wpAny_loadPart')
section
variable {X : Cx} {pins : List (Addr × Obj)} {σ : L2.St} {H : Hp} {s : Shared} {h' : Heap}
/-- several records of ours have turned, and two new objects are laid -/
theorem turnedNew2 {t' : Nat} {ch : List Addr} {T T2 : Addr} {ob ob2 : HO} (I : Inv X pins σ H s) (k : ∀ b o, b ∉ ch → s.heap.get? b = some o → h'.get? b = some o) (hf : ∀ b ∈ ch, FpOk X pins H b) (hT : s.heap.objs.size ≤ T) (hT2 : s.heap.objs.size ≤ T2) (hne : T2 ≠ T)
    (new : ObjOk X.prog X.w (upd (upd H T ob) T2 ob2) h' T ob) (new2 : ObjOk X.prog X.w (upd (upd H T ob) T2 ob2) h' T2 ob2) : Inv X pins σ (upd (upd H T ob) T2 ob2) { s with heap := h', toks := t' } := by
  have hn : H T = none := I.hok.fresh hT
  have hn2 : H T2 = none := I.hok.fresh hT2
  have nit : ∀ b u, H b = some u → b ∉ ch := fun b u e z => by
    have q := (hf b z).1
    rw [q] at e; cases e
  have old : ∀ b, b ≠ T → b ≠ T2 → (upd (upd H T ob) T2 ob2) b = H b := fun b h1 h2 => by rw [upd_ne h2, upd_ne h1]
  have lt : ∀ {b o}, s.heap.get? b = some o → b ≠ T ∧ b ≠ T2 := fun {b o} e => ⟨Nat.ne_of_lt (Nat.lt_of_lt_of_le (Heap.lt_size e) hT), Nat.ne_of_lt (Nat.lt_of_lt_of_le (Heap.lt_size e) hT2)⟩
  have st : ∀ {b o}, H b = some o → (upd (upd H T ob) T2 ob2) b = some o := fun {b o} e => by rw [old b (ne_of_none e hn) (ne_of_none e hn2)]; exact e
  refine I.step (g' := s.gens) (d' := s.drawn) (ch := ch) (fun b hb => ⟨(hf b hb).2.2.2.1, (hf b hb).2.1, (hf b hb).2.2.2.2.1, (hf b hb).2.2.2.2.2⟩) (fun b o _ _ hc e _ => k b o hc e) (fun b o _ _ hc e _ => ⟨o.slots, k b o hc e⟩)
    (fun b o _ e n => ?_) (fun b o hc e => ⟨o, k b o hc e⟩) (fun b xs e => st e) (fun b o u e => st e) (fun b ps e => ⟨#[], by rw [st e]; simp⟩) (fun m hm => ?_) (fun b u e => ?_) I.bare
  · rw [old b (lt e).1 (lt e).2]; exact n
  · obtain ⟨o, es, ep, ho, r⟩ := hm
    exact ⟨o, es, ep, k _ o (fun z => (hf _ z).2.1 rfl) ho, r⟩
  · by_cases hb2 : b = T2
    · subst hb2
      rw [upd_same] at e
      cases e
      exact new2
    · rw [upd_ne hb2] at e
      by_cases hb : b = T
      · subst hb
        rw [upd_same] at e
        cases e
        exact new
      · rw [upd_ne hb] at e
        refine (I.hok b u e).stay (fun c v hc q => k c v ?_ q) (fun c q => st q) fun c xs q => st q
        rcases hc with z | z
        · rw [z]; exact nit b u e
        · exact nit c _ z
end
/-- a list or a tuple -/
def SqK (t : Bool) (K : PySem.W.Frag) (H : Hp) (a : Addr) (xs : List V) : Prop := match t with | true => SqT K H a xs | false => SqL K H a xs
def IK (t : Bool) (h : Heap) (it l : Addr) (i : Nat) : Prop := match t with | true => h.IsTupleIter it l i | false => h.IsListIter it l i
def CK (t : Bool) (h : Heap) (l : Addr) (its : Array Value) : Prop := match t with | true => h.IsTuple l its | false => h.IsList l its
theorem IK.ob {t : Bool} {h : Heap} {it l : Addr} {i : Nat} (x : IK t h it l i) : ∃ o, h.get? it = some o ∧ ∀ v, o.data ≠ .cell v := by
  cases t with
  | true => obtain ⟨o, e, _, d⟩ := x; exact ⟨o, e, fun v q => by rw [d] at q; cases q⟩
  | false => obtain ⟨o, e, _, d⟩ := x; exact ⟨o, e, fun v q => by rw [d] at q; cases q⟩
theorem IK.to {t : Bool} {h h' : Heap} {it l : Addr} {i : Nat} (x : IK t h it l i) (k : ∀ o, h.get? it = some o → h'.get? it = some o) : IK t h' it l i := by
  cases t with
  | true => exact Heap.IsTupleIter.at x fun o e => k o e
  | false => exact Heap.IsListIter.at x fun o e => k o e
theorem drawsK {prog : Program} {w : World} {A : Around} (t : Bool) (hh : A.handled = none) (it l : Addr) (hne : l ≠ it) (items : Array Value) :
    Draws prog w A it [it, l] items.size (fun i v => items[i]? = some v) (fun i h => IK t h it l i ∧ CK t h l items) := by
  cases t with
  | true => exact Draws.tuple hh it l hne items
  | false => exact Draws.list hh it l hne items
theorem ck_of {X : Cx} {pins : List (Addr × Obj)} {σ : L2.St} {H : Hp} {s : Shared} {t : Bool} {a : Addr} {xs : List V} (I : Inv X pins σ H s) (h : SqK t X.K H a xs) : ∃ its : List Value, Vals xs its ∧ CK t s.heap a its.toArray := by
  cases t with
  | true => obtain ⟨its, rv, p, _⟩ := I.tuple h; exact ⟨its, rv, p⟩
  | false => obtain ⟨its, rv, p, _⟩ := I.list h; exact ⟨its, rv, p.isList⟩
theorem sqk_inj {X : Cx} {pins : List (Addr × Obj)} {σ : L2.St} {H : Hp} {s : Shared} {t : Bool} {a : Addr} {xs ys : List V} (I : Inv X pins σ H s) (h : SqK t X.K H a xs) (g : SqK t X.K H a ys) : xs = ys := by
  cases t with
  | true => exact I.tuple_inj h g
  | false => exact I.list_inj h g
/-- the walk: (i, (x, y)) -/
def IteZ (tA tB : Bool) (K : PySem.W.Frag) (a b : Addr) : It :=
  ⟨fun i H => ∃ (xs ys : List V) (x y : V), SqK tA K H a xs ∧ SqK tB K H b ys ∧ xs[i]? = some x ∧ ys[i]? = some y,
    fun i H v H' => ∃ T T2 x y, v = .ref T2 ∧ H T = none ∧ H T2 = none ∧ T2 ≠ T ∧ H' = upd (upd H T (.tup [x, y])) T2 (.tup [.int (i : Nat), .ref T]) ∧ (∀ xs, SqK tA K H a xs → xs[i]? = some x) ∧ ∀ ys, SqK tB K H b ys → ys[i]? = some y,
    fun i H => ∃ xs ys : List V, SqK tA K H a xs ∧ SqK tB K H b ys ∧ i ≤ xs.length ∧ i ≤ ys.length ∧ (i = xs.length ∨ i = ys.length)⟩
structure EzAt (tA tB : Bool) (h : Heap) (e z TI TO i1 i2 a b : Addr) (i : Nat) : Prop where
  e : ∃ old, IsEnum h e z ((i : Nat) : Int) old
  z : ZipX h z TI TO
  ti : IsPair h TI (.ref i1) (.ref i2)
  to : ∃ x y, IsPair h TO x y
  i1 : IK tA h i1 a i
  i2 : IK tB h i2 b i
/-- all cells apart -/
structure EzApart (e z TI TO i1 i2 a b : Addr) : Prop where
  D : ZipApart z TI TO i1 i2 a b
  ez : e ≠ z
  eTI : e ≠ TI
  eTO : e ≠ TO
  e1 : e ≠ i1
  e2 : e ≠ i2
  ea : e ≠ a
  eb : e ≠ b
theorem EzApart.sep {e z TI TO i1 i2 a b : Addr} (x : EzApart e z TI TO i1 i2 a b) : ZipSep2 z TI TO i1 i2 [i1, a] [i2, b] where
  TIz := x.D.TIz
  TOz := x.D.TOz
  TITO := x.D.TITO
  TIi1 := x.D.TIi1
  mem1 := by simp
  zf1 := by simp only [List.mem_cons, List.not_mem_nil, or_false, not_or]; exact ⟨x.D.i1z.symm, x.D.l1z.symm⟩
  Tf1 := by simp only [List.mem_cons, List.not_mem_nil, or_false, not_or]; exact ⟨x.D.TOi1, x.D.l1TO.symm⟩
  TIi2 := x.D.TIi2
  mem2 := by simp
  zf2 := by simp only [List.mem_cons, List.not_mem_nil, or_false, not_or]; exact ⟨x.D.i2z.symm, x.D.l2z.symm⟩
  Tf2 := by simp only [List.mem_cons, List.not_mem_nil, or_false, not_or]; exact ⟨x.D.TOi2, x.D.l2TO.symm⟩
  sep1_2 := by simp only [List.mem_cons, List.not_mem_nil, or_false, not_or]; exact ⟨x.D.i12, x.D.l2i1.symm⟩
  sep2_1 := by simp only [List.mem_cons, List.not_mem_nil, or_false, not_or]; exact ⟨x.D.i12.symm, x.D.l1i2.symm⟩
theorem EzApart.esep {e z TI TO i1 i2 a b : Addr} (x : EzApart e z TI TO i1 i2 a b) : EnumSep e z TI TO i1 i2 [i1, a] [i2, b] where
  ez := x.ez
  eTI := x.eTI
  eTO := x.eTO
  e1 := by simp only [List.mem_cons, List.not_mem_nil, or_false, not_or]; exact ⟨x.e1, x.ea⟩
  e2 := by simp only [List.mem_cons, List.not_mem_nil, or_false, not_or]; exact ⟨x.e2, x.eb⟩
theorem mem6 {c e z TI TO i1 i2 : Addr} (h : c ∈ [e, z, TI, TO, i1, i2]) : c = e ∨ c = z ∨ c = TI ∨ c = TO ∨ c = i1 ∨ c = i2 := by simpa using h
theorem nmem6 {c e z TI TO i1 i2 : Addr} (h : c ∉ [e, z, TI, TO, i1, i2]) : c ≠ e ∧ c ≠ z ∧ c ≠ TI ∧ c ≠ TO ∧ c ≠ i1 ∧ c ≠ i2 := by simpa using h
theorem turn_ez {P : Program} {w : World} {K : PySem.W.Frag} {elts : List Expr} {kk : Nat} {tpos : Pos} {tA tB : Bool} {a b e z TI TO i1 i2 : Addr} (D : EzApart e z TI TO i1 i2 a b) :
    Turn P w K (.Tuple elts kk tpos) (IteZ tA tB K a b) [e, z, TI, TO, i1, i2] e (fun i h => EzAt tA tB h e z TI TO i1 i2 a b i) where
  mem := by simp
  obj := fun i h st c hc => by
    obtain ⟨vs, hz⟩ := st.z.ob
    obtain ⟨old, he⟩ := st.e
    obtain ⟨x, y, hTO⟩ := st.to
    rcases mem6 hc with q | q | q | q | q | q <;> subst q
    · exact ⟨_, he, fun v q => nomatch q⟩
    · exact ⟨_, hz, fun v q => nomatch q⟩
    · exact ⟨_, st.ti, fun v q => nomatch q⟩
    · exact ⟨_, hTO, fun v q => nomatch q⟩
    · exact st.i1.ob
    · exact st.i2.ob
  keep := fun i h h' st k => by
    obtain ⟨x, y, hTO⟩ := st.to
    obtain ⟨old, he⟩ := st.e
    exact ⟨⟨old, k e (by simp) _ he⟩, st.z.at fun o q => k z (by simp) o q, k TI (by simp) _ st.ti, ⟨x, y, k TO (by simp) _ hTO⟩, st.i1.to fun o q => k i1 (by simp) o q, st.i2.to fun o q => k i2 (by simp) o q⟩
  item := by
    intro X hP hw hK hc i pins s σ H E I hf st hg
    subst hP hw hK
    obtain ⟨x0, y0, hTO⟩ := st.to
    obtain ⟨old, he⟩ := st.e
    obtain ⟨xs, ys, x, y, hqx, hqy, hx, hy⟩ := hg
    obtain ⟨its, rv, p⟩ := ck_of I hqx
    obtain ⟨its2, rv2, p2⟩ := ck_of I hqy
    obtain ⟨u, hu, ru⟩ := rv.get hx
    obtain ⟨u2, hu2, ru2⟩ := rv2.get hy
    have hi1 : i < its.toArray.size := by simpa using (List.getElem?_eq_some_iff.mp hu).1
    have hi2 : i < its2.toArray.size := by simpa using (List.getElem?_eq_some_iff.mp hu2).1
    have el : e < s.heap.objs.size := Heap.lt_size he
    have hh := I.ok.hd hc
    refine next_enumZ D.sep D.esep (drawsK tA (show X.A.in1.in1.handled = none from hh) i1 a D.D.l1i1 its.toArray) (drawsK tB (show X.A.in1.in1.handled = none from hh) i2 b D.D.l2i2 its2.toArray) he st.z st.ti hTO ⟨st.i1, p⟩ ⟨st.i2, p2⟩ hi1 hi2 fun v1 v2 h' tk y1 y2 e' z' o' q1 q2 t' t2' hk => ?_
    have eu : v1 = u := by
      have : its.toArray[i]? = some v1 := y1
      rw [List.getElem?_toArray, hu] at this
      exact (Option.some.inj this).symm
    have eu2 : v2 = u2 := by
      have : its2.toArray[i]? = some v2 := y2
      rw [List.getElem?_toArray, hu2] at this
      exact (Option.some.inj this).symm
    subst eu eu2
    refine ⟨_, rfl, wpAny_letOwnedTupleGo_enum (s := { s with heap := h', toks := tk + 1 }) e' fun h'' e'' sb => ?_⟩
    have n1 : s.heap.objs.size ≠ e := Nat.ne_of_gt el
    have n2 : s.heap.objs.size + 1 ≠ e := Nat.ne_of_gt (Nat.lt_succ_of_lt el)
    have hT : h''.get? s.heap.objs.size = some { cls := .type "tuple", data := .seq #[v1, v2] } := (sb.2 _ n1).trans t'
    have hT2 : h''.get? (s.heap.objs.size + 1) = some { cls := .type "tuple", data := .seq #[.int i tk, .ref s.heap.objs.size] } := (sb.2 _ n2).trans t2'
    have new : ObjOk X.prog X.w (upd (upd H s.heap.objs.size (.tup [x, y])) (s.heap.objs.size + 1) (.tup [.int (i : Nat), .ref s.heap.objs.size])) h'' s.heap.objs.size (.tup [x, y]) := ⟨by show 2 ≤ sizeLine; decide, [v1, v2], .cons ru (.cons ru2 .nil), ⟨_, hT, rfl, _, rfl⟩⟩
    have new2 : ObjOk X.prog X.w (upd (upd H s.heap.objs.size (.tup [x, y])) (s.heap.objs.size + 1) (.tup [.int (i : Nat), .ref s.heap.objs.size])) h'' (s.heap.objs.size + 1) (.tup [.int (i : Nat), .ref s.heap.objs.size]) := ⟨by show 2 ≤ sizeLine; decide, [.int i tk, .ref s.heap.objs.size], .cons ⟨_, rfl⟩ (.cons rfl .nil), ⟨_, hT2, rfl, _, rfl⟩⟩
    have I1 := turnedNew2 (h' := h'') (t' := tk + 1) (ch := [e, z, TI, TO, i1, i2]) I (fun c o hb q => by
      have n := nmem6 hb
      exact (sb.2 c n.1).trans (hk c o n.1 n.2.1 n.2.2.2.1 n.2.2.2.2.1 n.2.2.2.2.2 q)) hf (Nat.le_refl _) (Nat.le_succ _) (Nat.succ_ne_self _) new new2
    have lt : ∀ c ∈ [e, z, TI, TO, i1, i2], c < s.heap.objs.size := fun c hcm => by
      obtain ⟨vs, hz⟩ := st.z.ob
      obtain ⟨o1, e1, _⟩ := st.i1.ob
      obtain ⟨o2, e2, _⟩ := st.i2.ob
      rcases mem6 hcm with q | q | q | q | q | q <;> subst q
      · exact el
      · exact Heap.lt_size hz
      · exact Heap.lt_size st.ti
      · exact Heap.lt_size hTO
      · exact Heap.lt_size e1
      · exact Heap.lt_size e2
    obtain ⟨b1, b2, o'⟩ := o'
    refine ⟨.ref (s.heap.objs.size + 1), _, I1, rfl, ⟨s.heap.objs.size, s.heap.objs.size + 1, x, y, rfl, I.hok.fresh (Nat.le_refl _), I.hok.fresh (Nat.le_succ _), Nat.succ_ne_self _, rfl, fun l hl => by rw [sqk_inj I hl hqx]; exact hx, fun l hl => by rw [sqk_inj I hl hqy]; exact hy⟩,
      ⟨⟨.ref s.heap.objs.size, ?_⟩, z'.at fun o q => (sb.2 _ (Ne.symm D.ez)).trans q, (sb.2 _ (Ne.symm D.eTI)).trans (hk _ _ (Ne.symm D.eTI) D.D.TIz D.D.TITO D.D.TIi1 D.D.TIi2 st.ti), ⟨b1, b2, (sb.2 _ (Ne.symm D.eTO)).trans o'⟩, q1.1.to fun o q => (sb.2 _ (Ne.symm D.e1)).trans q, q2.1.to fun o q => (sb.2 _ (Ne.symm D.e2)).trans q⟩, fun c hcm => ?_⟩
    · rw [show ((i + 1 : Nat) : Int) = (i : Int) + 1 by omega]
      exact e''
    · have l := lt c hcm
      rw [upd_ne (Nat.ne_of_lt (Nat.lt_succ_of_lt l)), upd_ne (Nat.ne_of_lt l)]
      exact (hf c hcm).1
  done := by
    intro X hP hw hK hc i pins s σ H E I hf st hg
    subst hP hw hK
    obtain ⟨x0, y0, hTO⟩ := st.to
    obtain ⟨old, he⟩ := st.e
    obtain ⟨xs, ys, hqx, hqy, l1, l2, hend⟩ := hg
    obtain ⟨its, rv, p⟩ := ck_of I hqx
    obtain ⟨its2, rv2, p2⟩ := ck_of I hqy
    have r1 := rv.length
    have r2 := rv2.length
    have hh := I.ok.hd hc
    exact next_enumZ_end D.sep (drawsK tA (show X.A.in1.in1.handled = none from hh) i1 a D.D.l1i1 its.toArray) (drawsK tB (show X.A.in1.in1.handled = none from hh) i2 b D.D.l2i2 its2.toArray) he st.z st.ti hTO ⟨st.i1, p⟩ ⟨st.i2, p2⟩ (by simp; omega) (by simp; omega) (by simp; omega) fun h' tk hk => ⟨rfl, I.turnedL (t' := tk) (ch := [e, z, TI, TO, i1, i2]) (fun c o hb q => by
      have n := nmem6 hb
      exact hk c o n.2.1 n.2.2.2.1 n.2.2.2.2.1 n.2.2.2.2.2 q) hf⟩
  self := fun A i s Q E st h => by
    obtain ⟨old, he⟩ := st.e
    exact wpAny_pyIter_enum he h
/-! ### how it is made -/
theorem newEnumZ (z TI TO : Addr) :
    Meets (Builtin.«enumerate.__new__» ⟨[.type "enumerate", .ref z], []⟩) (fun _ R s => IsZip s.heap z TI TO .none ∧
      R (.ok (.ret (.ref s.heap.objs.size))) { s with heap := s.heap.push { cls := .type "enumerate", data := .fields #[.none, .bool false, .ref z, rawInt 0, .none, .none] } }) :=
  .of_wp fun prog w A R s h => by
    obtain ⟨hp, g, d, tk, os⟩ := s
    obtain ⟨hl, h⟩ := h
    have hsub := sub_enumerate
    have hz : IsZip (Shared.heap ⟨hp, g, d, tk, os⟩) z TI TO .none := hl
    wp_walk using wpAny_pyIter_zip hz
    refine wpAny_stack_any fun st => wpAny_pure ?_
    split
    · rename_i c _ _ _ _ _
      cases (c == Value.type "enumerate") <;> (wp_walk using wpAny_pyIter_zip hz; exact ⟨_, rfl, h⟩)
    · wp_walk using wpAny_pyIter_zip hz
      exact ⟨_, rfl, h⟩
theorem callEnumZ {prog : Program} {w : World} {A : Around} {E : Value → Shared → Prop} {s : Shared} {z TI TO : Addr} {Q : Value → Shared → Prop} (hz : IsZip s.heap z TI TO .none)
    (h : ∀ h', IsEnum h' s.heap.objs.size z 0 .none → (∀ b o, s.heap.get? b = some o → h'.get? b = some o) → Q (.ref s.heap.objs.size) { s with heap := h' }) :
    wpAny (model prog w) A (call (.type "enumerate") [.ref z]) Q E s := by
  refine callType_new F.called_enumerate (by decide) (F.typeCall_enumerate_1 _) (F.newCall_enumerate_1 _) (fun obj => F.args_object_init_2 obj _) F.entry_enumerate_new (newEnumZ z TI TO) ⟨hz, ?_⟩
  have he : IsEnum (s.heap.push { cls := .type "enumerate", data := .fields #[.none, .bool false, .ref z, rawInt 0, .none, .none] }) s.heap.objs.size z 0 .none := Heap.get?_push_size _ rfl
  exact ⟨⟨_, he, rfl⟩, h _ he fun b o x => Heap.get?_push_of_some _ x⟩
def iEnumZ (K : PySem.W.Frag) (ta : TA) : TI := fun σ H R => ta σ H fun vs H1 => ∃ a b xs ys, vs = [.ref a, .ref b] ∧ ((SqL K H1 a xs ∧ SqL K H1 b ys ∧ R (IteZ false false K a b) H1) ∨ (SqT K H1 a xs ∧ SqT K H1 b ys ∧ R (IteZ true true K a b) H1))
theorem pi_enumZ {X : Cx} {e e2 : Expr} {ta : TA} {p p2 pos pos2 tpos : Pos} {elts : List Expr} {kk : Nat} (hge : Gl X "enumerate") (hme : X.mg "enumerate" = none) (hg : Gl X "zip") (hm : X.mg "zip" = none) (ha : PA X [e, e2] ta)
    (hs : starEach [e, e2] X.env = (false, eval e X.env) :: starEach [e2] X.env := by rfl) (hpl : (backTo pos2 (starEach [e2] X.env)).any (·.1) = false := by rfl)
    (hs1 : starEach [.Call (.Name "zip" p2) [e, e2] [] pos2] X.env = (false, eval (.Call (.Name "zip" p2) [e, e2] [] pos2) X.env) :: starEach [] X.env := by rfl) :
    PI X (.Tuple elts kk tpos) (.Call (.Name "enumerate" p) [.Call (.Name "zip" p2) [e, e2] [] pos2] [] pos) (iEnumZ X.K ta) := by
  refine ⟨fun pins s σ H R I h => ?_⟩
  refine Call_ (ld_blt I hge hme boot_enumerate (PyProof.Rows.callWith_type1 ?_ hs1 rfl))
  rw [hs1]
  show wpAny _ _ (spliced ((false, eval (.Call (.Name "zip" p2) [e, e2] [] pos2) X.env) :: backTo pos (starEach [] X.env))) _ _ s
  refine Calls.spliced_cons ?_
  refine Call_ (ld_blt I hg hm PyProof.Rows.boot_zip (PyProof.Rows.callWith_type1 (thn (ha.run pos2 pins s σ H _ I h) fun us s1 ⟨vs, H1, I1, r1, q1⟩ => ?_) hs hpl))
  obtain ⟨a, b, xs, ys, ex, q1⟩ := q1
  subst ex
  obtain ⟨u, u2, rfl, e1, e2'⟩ : ∃ u u2, us = [u, u2] ∧ RelV (.ref a) u ∧ RelV (.ref b) u2 := by
    cases r1 with
    | cons r rr =>
      cases rr with
      | cons r' rr => cases rr; exact ⟨_, _, rfl, r, r'⟩
  cases e1
  cases e2'
  have fin : ∀ (t : Bool) (h' : Heap), a < s1.heap.objs.size → b < s1.heap.objs.size → IsZip h' (s1.heap.objs.size + 4) (s1.heap.objs.size + 2) (s1.heap.objs.size + 3) .none → IsPair h' (s1.heap.objs.size + 2) (.ref s1.heap.objs.size) (.ref (s1.heap.objs.size + 1)) →
      IsPair h' (s1.heap.objs.size + 3) .none .none → IK t h' s1.heap.objs.size a 0 → IK t h' (s1.heap.objs.size + 1) b 0 → h'.objs.size = s1.heap.objs.size + 5 → (∀ c o, s1.heap.get? c = some o → h'.get? c = some o) → R (IteZ t t X.K a b) H1 →
      wpAny (model X.prog X.w) X.A (call (.type "enumerate") [.ref (s1.heap.objs.size + 4)]) (fun v s2 => wpAny (model X.prog X.w) X.A (pyIter v) (PIE X pins σ (.Tuple elts kk tpos) R) X.xe s2) X.xe { s1 with heap := h' } := by
    intro t h' la lb hz hTI hTO h1 h2 hsz hk q
    refine callEnumZ (s := { s1 with heap := h' }) hz fun h'' he hk2 => ?_
    replace he : IsEnum h'' h'.objs.size (s1.heap.objs.size + 4) 0 .none := he
    replace hk2 : ∀ b o, h'.get? b = some o → h''.get? b = some o := hk2
    refine wpAny_pyIter_enum (s := { s1 with heap := h'' }) he ?_
    have I2 : Inv X pins σ H1 { s1 with heap := h'' } := I1.kept (t' := s1.toks) fun c o e => hk2 c o (hk c o e)
    rw [hsz] at he
    show PIE X pins σ _ R (.ref h'.objs.size) _
    rw [hsz]
    refine ⟨s1.heap.objs.size + 5, [s1.heap.objs.size + 5, s1.heap.objs.size + 4, s1.heap.objs.size + 2, s1.heap.objs.size + 3, s1.heap.objs.size, s1.heap.objs.size + 1], _, _, H1, rfl, I2, turn_ez (tA := t) (tB := t) ⟨PySem.W.ktu_apart s1.heap.objs.size a b la lb, ?_, ?_, ?_, ?_, ?_, ?_, ?_⟩,
      ⟨⟨.none, he⟩, .inl (hk2 _ _ hz), hk2 _ _ hTI, ⟨_, _, hk2 _ _ hTO⟩, h1.to fun o e => hk2 _ o e, h2.to fun o e => hk2 _ o e⟩, fun c hc => ?_, q⟩
    iterate 5 (exact Nat.ne_of_gt (by omega))
    · exact Nat.ne_of_gt (Nat.lt_of_lt_of_le la (Nat.le_add_right _ _))
    · exact Nat.ne_of_gt (Nat.lt_of_lt_of_le lb (Nat.le_add_right _ _))
    have le : s1.heap.objs.size ≤ c := by rcases mem6 hc with q | q | q | q | q | q <;> subst q <;> omega
    exact I1.fpOk le (I1.hok.fresh le)
  rcases q1 with ⟨hqx, hqy, q⟩ | ⟨hqx, hqy, q⟩
  · obtain ⟨its, rv, p1, _⟩ := I1.list hqx
    obtain ⟨its2, rv2, p2, _⟩ := I1.list hqy
    exact call_zip_2 p1.isList p2.isList fun h' hz hTI hTO h1 h2 hsz hk => Calls.spliced_nil (fin false h' p1.lt p2.lt hz hTI hTO h1 h2 hsz hk q)
  · obtain ⟨its, rv, p1, _⟩ := I1.tuple hqx
    obtain ⟨its2, rv2, p2, _⟩ := I1.tuple hqy
    obtain ⟨o1, ho1, _⟩ := id p1
    obtain ⟨o2, ho2, _⟩ := id p2
    exact call_zipT (show s1.heap.IsTuple a its.toArray from p1) (show s1.heap.IsTuple b its2.toArray from p2) fun h' hz hTI hTO h1 h2 hsz hk => Calls.spliced_nil (fin true h' (Heap.lt_size ho1) (Heap.lt_size ho2) hz hTI hTO h1 h2 hsz hk q)
/-- how far such a walk goes -/
theorem walk_ez {t t' : Bool} {K : PySem.W.Frag} {a b : Addr} {xs ys : List V} {n : Nat} (e1 : n ≤ xs.length) (e2 : ys.length = n) : Walk (IteZ t t' K a b) n (fun H => SqK t K H a xs ∧ SqK t' K H b ys)
    (fun i H v H' => ∃ T T2 x y, v = .ref T2 ∧ H T = none ∧ H T2 = none ∧ T2 ≠ T ∧ H' = upd (upd H T (.tup [x, y])) T2 (.tup [.int (i : Nat), .ref T]) ∧ xs[i]? = some x ∧ ys[i]? = some y) := by
  refine ⟨fun i H hi q => ?_, fun H q => ⟨xs, ys, q.1, q.2, e1, by omega, .inr (by omega)⟩, fun i H x H' hi q y => ?_⟩
  · have h1 : i < xs.length := by omega
    have h2 : i < ys.length := by omega
    exact ⟨xs, ys, _, _, q.1, q.2, List.getElem?_eq_getElem h1, List.getElem?_eq_getElem h2⟩
  · obtain ⟨T, T2, x', y', rfl, hT, hT2, ne, rfl, f1, f2⟩ := y
    exact ⟨T, T2, x', y', rfl, hT, hT2, ne, rfl, f1 xs q.1, f2 ys q.2⟩
end Wk
/-! list(d), d a dict whose keys are tuples of numbers. -/
namespace Wk
open PySem PySem.Spec PyProof.Rows L2
def rListTD : List V → Hp → VK → Prop := fun vs H Q => ∃ (a : Addr) (kvs : List (List Key × V)) (ks : List (List Int)), vs = [V.ref a] ∧ H a = some (.dT kvs) ∧ kvs.map (·.1) = ks.map (·.map Sum.inl) ∧ ks.length ≤ sizeLine ∧
  ∀ (ys : List (Addr × List Int)) (p : Addr), ys.map (·.2) = ks → (∀ y ∈ ys, H y.1 = some (.tup (y.2.map V.int))) → H p = none → Q (.ref p) (upd H p (.lst (ys.map fun y => V.ref y.1)))
theorem vals_refs : ∀ (L : List (Addr × List Int)), Vals (L.map fun y => V.ref y.1) (L.map fun y => Value.ref y.1)
  | [] => .nil
  | _ :: L => .cons rfl (vals_refs L)
section
variable {X : Cx}
theorem call_listTD (hc : X.calm = true) : CallR X (.type "list") rListTD := by
  intro pins s σ H xs us Q I r q
  obtain ⟨a, kvs, ks, rfl, ha, hks, hfit, q⟩ := q
  obtain ⟨u, rfl, rx⟩ := r.one
  cases rx
  obtain ⟨z, hs, xt, pr, o, es, ep, ho, hx, hdt, he, hn⟩ := (show ObjOk X.prog X.w H s.heap a (.dT kvs) from I.hok a _ ha)
  have l1 : es.size = xt.length := size_of_entries he
  have l2 : kvs.length = xt.length := Paired.length pr
  obtain ⟨L, L1, L2', L3⟩ := kT_ints pr hks
  have lL : L.length = ks.length := by rw [← L1, List.length_map]
  have lx : xt.length = L.length := by have := congrArg List.length L2'; rwa [List.length_map, List.length_map] at this
  refine PySem.W.kdl_call (kdl_raw hs hx hdt) (I.ok.hd hc) ho (by omega) fun h' tk acc c' hk hD it => ?_
  have ea : acc.toList = L.map fun y => Value.ref y.1 := by
    rw [← L2']
    have hl : acc.toList.length = xt.length := by rw [Array.length_toList, it.1]; exact l1
    refine List.ext_getElem? fun j => ?_
    rw [List.getElem?_map]
    cases hj : acc.toList[j]? with
    | none =>
      have h1 := List.getElem?_eq_none_iff.mp hj
      rw [List.getElem?_eq_none (by omega)]
      rfl
    | some v =>
      obtain ⟨en, hen, hv⟩ := it.2 j v (by rw [← Array.getElem?_toList]; exact hj)
      rw [entry_at he j] at hen
      obtain ⟨b, hb, e2⟩ := Option.map_eq_some_iff.mp hen
      rw [hb, hv, ← e2]
      rfl
  refine ⟨.ref s.heap.objs.size, _, I.laid (t' := tk) hk (Nat.le_refl _) (show ObjOk X.prog X.w _ h' _ (.lst (L.map fun y => V.ref y.1)) from ⟨by rw [List.length_map]; omega, acc.toList, c', by rw [ea]; exact vals_refs L, by rw [Array.toArray_toList]; exact hD⟩), rfl, q L _ L1 L3 (I.hok.fresh (Nat.le_refl _))⟩
end
end Wk
/-! _sign_at, _passes. -/
namespace T77
open PySem PySem.Spec PyProof.Rows L2 Wk Vb
abbrev sSign : Stmt := top 26
abbrev sPass : Stmt := top 27
theorem scSg : FnScope ["at", "sign"] ["at", "sign"] (defScope sSign) := ⟨rfl, rfl, rfl, by decide +kernel, rfl, by decide +kernel, by decide +kernel⟩
theorem scPs : FnScope ["walk", "sign", "at", "u", "v"] ["walk", "sign"] (defScope sPass) := ⟨rfl, rfl, rfl, by decide +kernel, rfl, by decide +kernel, by decide +kernel⟩
def spSign : Sp := fun vs H Q _ => ∃ (k : Nat) (s : Int), vs = [.int (k : Int), .int s] ∧ Q (.int (sgn s k)) H
def spPass (K : PySem.W.Frag) : Sp := fun vs H Q _ => ∃ (W : Addr) (ws : List Int) (s : Int), vs = [.ref W, .int s] ∧ SqL K H W (ws.map V.int) ∧ ws.length ≤ 14 ∧
  ∀ H' P xs, Same H H' → H' P = some (.lst xs) → Trs K H' xs (pas s ws) → Q (.ref P) H'
theorem cut_tail (xs : List V) : cutV xs (some 1) none = xs.tail := by
  unfold cutV
  cases xs with
  | nil => rfl
  | cons a l =>
    have e1 : HT.sIx (a :: l).length 0 (some 1) = 1 := by unfold HT.sIx; simp
    have e2 : HT.sIx (a :: l).length (a :: l).length none = (a :: l).length := rfl
    rw [e1, e2]
    simp
section
variable {P : Program} {w : World} {K : PySem.W.Frag} {mg : Str → Option Value} {base : Heap} {C f : Addr} {fd : FuncData}
theorem ok_sign (F : Fun K "_sign_at" "_sign_at" sSign f fd) (B : Bl mg) : FnOk P w K mg base CX0 1 f fd ["at", "sign"] spSign := by
  refine F.ok scSg (fun vs H Q E h => ?_) (fun cdv A outer s H vs Q E hr h => ?_)
  · obtain ⟨k, s, rfl, _⟩ := h
    rfl
  · obtain ⟨k, sg, rfl, q⟩ := h
    refine ⟨_, (pss_one (ps_ret (pe_ifExp (pt_cmpR op_eq (pe_op op_mod (pv 0) pe_int) pe_int (nomark _)) (pv 1) (pe_un un_neg (pv 1))))), ?_⟩
    refine ⟨_, rfl, (k : Int), 2, rfl, rfl, (by show (0 : Int) < 2; decide), rfl, _, rfl, ?_⟩
    unfold sgn at q
    by_cases c : k % 2 = 0
    · rw [if_pos c] at q
      have c' : (k : Int) % 2 = 0 := by omega
      rw [decide_eq_true (show V.int ((k : Int) % 2) = V.int 0 by rw [c'])]
      exact ⟨_, rfl, q⟩
    · rw [if_neg c] at q
      have c' : ¬ (k : Int) % 2 = 0 := by omega
      rw [decide_eq_false (show ¬ V.int ((k : Int) % 2) = V.int 0 from fun z => c' (by injection z))]
      exact ⟨_, rfl, _, rfl, q⟩
theorem ok_passes (F : Fun K "_passes" "_passes" sPass f fd) (B : Bl mg) (o__sign_at : Own P w K mg base CX0 1 "_sign_at" ["at", "sign"] spSign) : FnOk P w K mg base CX0 2 f fd ["walk", "sign"] (spPass K) := by
  refine F.ok scPs (fun vs H Q E h => ?_) (fun cdv A outer s H vs Q E hr h => ?_)
  · obtain ⟨W, ws, s, rfl, _⟩ := h
    rfl
  · obtain ⟨W, ws, sg, rfl, hW, hl, q⟩ := h
    have hu := hu_of hr
    refine ⟨_, (pss_one (ps_ret (pe_lc (own := [("at", 2), ("u", 3), ("v", 4)]) (g := (gTup K 2 (gCons (gName 2) (gCons (gTup K 2 (gCons (gName 3) (gCons (gName 4) gNil))) gNil)))) (tt := tYes) rfl scPs.nd (pi_enumZ (by rfl) B.m_enumerate (by rfl) B.m_zip (pa_cons (pv 0) (pa_cons (pe_slice sl_list (pv 0) (po_some pe_int) po_none) pa_nil))) (blkOk_by (N := ["walk", "sign", "at", "u", "v"]) (sc := defScope sPass) (by decide +kernel)) (fun _ _ _ _ _ => pg_tup (by rfl) (pgs_cons (pg_name (i := 2) scPs.nd rfl (Or.inl rfl)) (pgs_cons (pg_tup (by rfl) (pgs_cons (pg_name (i := 3) scPs.nd rfl (Or.inl rfl)) (pgs_cons (pg_name (i := 4) scPs.nd rfl (Or.inl rfl)) pgs_nil))) pgs_nil))) (fun _ _ _ _ _ => pts_nil) (fun _ _ _ _ _ => (pe_tup (pa_cons (pv 3) (pa_cons (pv 4) (pa_cons (pe_own o__sign_at (hr.mono (by decide)) pass0 (pa_cons (pv 2) (pa_cons (pv 1) pa_nil))) pa_nil)))))))), ?_⟩
    refine ⟨.ref W, rfl, .ref W, rfl, 1, rfl, W, _, rfl, hW, fun S nS => ?_⟩
    rw [cut_tail]
    replace nS : New H S := nS
    have sS := same_new (o := .lst (ws.map V.int).tail) nS
    have hS := upd_same (H := H) (a := S) (o := .lst (ws.map V.int).tail)
    have hW2 : SqL K (upd H S (.lst (ws.map V.int).tail)) W (ws.map V.int) := hW.ext sS
    generalize (upd H S (.lst (ws.map V.int).tail)) = H1 at sS hS hW2 ⊢
    refine ⟨W, S, _, _, rfl, .inl ⟨hW2, .inl (.inl hS), fun D nD => ?_⟩⟩
    replace nD : New H1 D := nD
    have hpl : (pas sg ws).length = ws.length - 1 := pas_len
    refine lc_it (walk_ez (n := ws.length - 1) (by rw [List.length_map]; omega) (by rw [List.length_tail, List.length_map])) (fun i H2 => Same H1 H2 ∧ ∃ zs, H2 D = some (.lst zs) ∧ Trs K H2 zs ((pas sg ws).take i)) ⟨same_new nD, [], upd_same, True.intro⟩ (fun i H2 _ z => ⟨hW2.ext z.1, .inl (.inl (z.1 _ _ hS))⟩) ?_ ?_
    · rintro i x H2 H3 hi ⟨m1, zs, m2, m3⟩ ⟨T, T2, x', y', rfl, nT, nT2, hne, rfl, hx, hy⟩
      rw [List.getElem?_map] at hx
      rw [List.getElem?_tail, List.getElem?_map] at hy
      obtain ⟨u, hu', rfl⟩ := Option.map_eq_some_iff.mp hx
      obtain ⟨v, hv', rfl⟩ := Option.map_eq_some_iff.mp hy
      replace nT : New H2 T := nT
      have s1 := same_new (o := .tup [V.int u, V.int v]) nT
      have nT2' : New (upd H2 T (.tup [V.int u, V.int v])) T2 := by
        show (upd H2 T (.tup [V.int u, V.int v])) T2 = none
        rw [upd_ne hne]
        exact nT2
      have s2 := same_new (o := .tup [V.int (i : Int), V.ref T]) nT2'
      have hT2 := upd_same (H := upd H2 T (.tup [V.int u, V.int v])) (a := T2) (o := .tup [V.int (i : Int), V.ref T])
      have hT := s2 _ _ (upd_same (H := H2) (a := T) (o := .tup [V.int u, V.int v]))
      have s12 := s1.trans s2
      generalize (upd (upd H2 T (.tup [V.int u, V.int v])) T2 (.tup [V.int (i : Int), V.ref T])) = H3 at s12 hT2 hT ⊢
      refine ⟨T2, _, rfl, .inl (.inl hT2), rfl, _, _, rfl, _, _, rfl, T, _, rfl, .inl (.inl hT), rfl, _, _, rfl, _, _, rfl, rfl, rfl, rfl, ?_⟩
      refine ⟨_, rfl, _, rfl, _, rfl, _, rfl, i, sg, rfl, (by show 3 ≤ sizeLine; decide), fun R nR => ?_⟩
      replace nR : New H3 R := nR
      have sR := same_new (o := .tup [V.int u, V.int v, V.int (sgn sg i)]) nR
      have m2' := sR _ _ (s12 _ _ m2)
      have hRD : R ≠ D := Ne.symm (ne_new nR (s12 _ _ m2))
      have hzl : zs.length = min i (ws.length - 1) := by rw [m3.length, List.length_take, hpl]
      refine ⟨zs, m2', by rw [sizeLine_eq]; omega, over nD (m1.trans (s12.trans sR)), zs ++ [.ref R], upd_same, ?_⟩
      rw [pas_take (by omega), show ws.getD i 0 = u by rw [List.getD_eq_getElem?_getD, hu']; rfl, show ws.getD (i + 1) 0 = v by rw [List.getD_eq_getElem?_getD, hv']; rfl]
      exact Trs.append (Trs.but m2' (But.upd _ _ _) (m3.same (s12.trans sR))) ⟨⟨R, rfl, .inl (.inl (by rw [upd_ne hRD]; exact upd_same))⟩, True.intro⟩
    · rintro H2 ⟨m1, zs, m2, m3⟩
      rw [← hpl, List.take_length] at m3
      exact q H2 D zs (sS.trans m1) m2 m3
end
end T77
/-! Within an except suite: a, b = t of a tuple; o[i] by an own method. -/
namespace Wk
open PySem PySem.Spec PyProof.Rows L2 L2H HotX
section
variable {prog : Program} {w : World} {A : Around} {E : Value → Shared → Prop} {s : Shared}
theorem next_tuple_end_hot {x1 it t : Addr} {i : Nat} {items} {Q : Option Value → Shared → Prop} (hot : HotAt A x1 s.heap) (hne : x1 ≠ it)
    (hit : IsTupIter s.heap it t i) (ht : IsTup s.heap t items) (hx : items[i]? = none)
    (hQ : ∀ h', Heap.ExtBut it s.heap h' → Q none { s with heap := h' }) : wpAny (model prog w) A (pyNext (.ref it)) Q E s := by
  obtain ⟨o, ho, hc, hd⟩ := id hit
  obtain ⟨ol, hol, _, nl, hdl⟩ := ht
  obtain ⟨hh, o1, vs1, h1, d1, c1⟩ := hot
  unfold pyNext
  refine wpAny_bind (wpAny_attempt (wpAny_callSpecial?_slot (name := Str.ofString "__next__") hit.typeIs slot_tupleiter_next
    (wpAny_call_entry slot_tupleiter_next hit.typeIs entry_tupleiter_next ?_ (args_tupleiter_next _))))
  show wpAny _ _ (field (.ref it) 0 >>= _) _ _ s
  refine wpAny_bind (wpAny_field ho hd (x := .ref t) rfl ?_)
  show wpAny _ _ (if (Value.ref t == Value.none) = true then _ else _) _ _ s
  rw [if_neg (show ¬ ((Value.ref t == Value.none) = true) from Bool.false_ne_true)]
  show wpAny _ _ (field (.ref it) 1 >>= _) _ _ s
  refine wpAny_bind (wpAny_field ho hd (x := .int i 0) rfl ?_)
  show wpAny _ _ (seqItems? (.ref t) >>= _) _ _ s
  refine wpAny_bind (wpAny_seqItems hol hdl ?_)
  simp only [Int.toNat_natCast, hx]
  refine wpAny_bind (wpAny_rule (wpAny_bind (wpAny_setField ho hd (by simp) ?_)))
  show wpAny _ _ (newExc (.type "StopIteration") [] >>= _) _ _ _
  refine wpAny_bind ?_
  simp only [newExc, newTuple]
  refine wpAny_bind (wpAny_newObj_type ?_ (by size_fits))
  refine wpAny_bind (m := firstArgMember _ _) (wpAny_of_eq (a := Value.none) (by first | rfl | (simp only [firstArgMember]; rfl)) ?_)
  refine wpAny_newObj_type ?_ (by size_fits)
  have h1' : ∀ {d : Obj → Obj}, (s.heap.update it d).get? x1 = some o1 := fun {d} => by rw [Heap.get?_update_other _ _ (Ne.symm hne)]; exact h1
  refine raiseNew_hot ⟨hh, o1, vs1, Heap.get?_push_of_some _ (Heap.get?_push_of_some _ h1'), d1, c1⟩ (Nat.ne_of_lt (Heap.lt_size (Heap.get?_push_of_some _ h1'))) (Heap.get?_push_size _ rfl) rfl (by first | (simp; done) | (simp; omega) | (simp only [Array.size_append]; simp; omega)) ?_
  refine wpAny_bind (wpAny_isInstance (T := "StopIteration") (b := true) ⟨_, Heap.get?_update_self _ (Heap.get?_push_size _ rfl) rfl, rfl⟩ isSubtype_stop ?_)
  refine wpAny_pure (hQ _ fun b o hb e => ?_)
  have e1 : ∀ {d : Obj → Obj}, (s.heap.update it d).get? b = some o := fun {d} => by rw [Heap.get?_update_other _ _ (Ne.symm hb)]; exact e
  rw [Heap.get?_update_other _ _ (Nat.ne_of_gt (Heap.lt_size (Heap.get?_push_of_some _ e1)))]
  exact Heap.get?_push_of_some _ (Heap.get?_push_of_some _ e1)
theorem unpackItems_tuple_hot {x1 t : Addr} {items : Array Value} {Q : List Value → Shared → Prop} (hot : HotAt A x1 s.heap) (ht : IsTup s.heap t items)
    (hQ : ∀ h', Heap.ExtBut s.heap.objs.size s.heap h' → Q items.toList { s with heap := h' }) : wpAny (model prog w) A (unpackItems (.ref t) items.size none) Q E s := by
  have hlt : t ≠ s.heap.objs.size := by obtain ⟨o, ho, _⟩ := ht; exact Nat.ne_of_lt (Heap.lt_size ho)
  unfold unpackItems
  refine wpAny_bind ?_
  · unfold notIterableAtAll
    refine wpAny_bind (wpAny_specialOf ht.typeIs slot_tuple_iter.lookup ?_)
    refine wpAny_pure ?_
    simp only [Bool.false_eq_true, if_false]
    refine wpAny_bind (wpAny_holding (iter_tuple ht ?_))
    refine wpAny_bind (wpAny_holding (draw_tuple hlt items.size 0 _ _ ⟨_, Heap.get?_push_size _ rfl, rfl, rfl⟩ (ht.push _) (by omega) fun h₁ hit₁ hs₁ => ?_))
    have hall : List.take items.size (List.drop 0 items.toList) = items.toList := by
      rw [List.drop_zero]; exact List.take_of_length_le (by simp)
    rw [hall]
    rw [if_neg (by simp)]
    have ht₁ : IsTup h₁ t items := (ht.push _).extBut hs₁.extBut hlt
    obtain ⟨hh, o1, vs1, h1, d1, c1⟩ := hot
    have hx1 : x1 ≠ s.heap.objs.size := Nat.ne_of_lt (Heap.lt_size h1)
    have h1' : h₁.get? x1 = some o1 := hs₁.extBut x1 o1 hx1 (Heap.get?_push_of_some _ h1)
    refine wpAny_bind (wpAny_holding (next_tuple_end_hot (x1 := x1) ⟨hh, o1, vs1, h1', d1, c1⟩ hx1 hit₁ ht₁ (by simp) fun h₂ he₂ => ?_))
    simp only [Option.isSome_none, Bool.false_eq_true, if_false]
    refine wpAny_pure (hQ h₂ fun b o hb e => he₂ b o hb (hs₁.extBut b o hb (Heap.get?_push_of_some _ e)))
theorem unpack_tuple_hot {x1 t : Addr} {items : Array Value} {targets : List (Bool × (Value → Sem Unit))} {Q : Unit → Shared → Prop} (hot : HotAt A x1 s.heap) (ht : IsTup s.heap t items)
    (hn : targets.length = items.size) (hstar : targets.findIdx? (·.1) = none)
    (h : ∀ h', Heap.ExtBut s.heap.objs.size s.heap h' → wpAny (model prog w) A (assignInOrder (targets.map (·.2)) items.toList) Q E { s with heap := h' }) :
    wpAny (model prog w) A (unpack (.ref t) targets) Q E s := by
  unfold unpack
  rw [hn, hstar]
  exact wpAny_bind (wpAny_holding (unpackItems_tuple_hot hot ht h))
theorem assign_Tuple_tuple_hot {x1 : Addr} {env : Env} {elts : List Expr} {x2} {pos : Pos} {t : Addr} {items : Array Value} {Q : Unit → Shared → Prop} (hot : HotAt A x1 s.heap) (ht : IsTup s.heap t items)
    (hn : (assignEach elts env).length = items.size) (hstar : (assignEach elts env).findIdx? (·.1) = none)
    (h : ∀ h', Heap.ExtBut s.heap.objs.size s.heap h' → wpAny (model prog w) A (assignInOrder ((assignEach elts env).map (·.2)) items.toList) Q E { s with heap := h' }) :
    wpAny (model prog w) A (assign (.Tuple elts x2 pos) env (.ref t)) Q E s := by
  rw [assign_Tuple]
  exact wpAny_bind (wpAny_standAt (unpack_tuple_hot hot ht hn hstar h))
end
section
variable {X : Cx} {pos : Pos}
theorem pg_tupH {es : List Expr} {k : Nat} {t : TGs} {n : Nat} (hc : HotC X) (h : PGs X es t)
    (hn : (assignEach es X.env).length = n := by rfl) (hst : (assignEach es X.env).findIdx? (·.1) = none := by rfl) : PG X (.Tuple es k pos) (gTup X.K n t) := by
  refine ⟨fun pins s σ H v u Q I r hw => ?_⟩
  obtain ⟨a, xs, e1, hq, hl, hw⟩ := hw
  subst e1
  cases r
  obtain ⟨its, rv, ht, hz⟩ := I.tuple hq
  obtain ⟨x1, hot⟩ := hc.at I
  refine assign_Tuple_tuple_hot hot ht (by simp [hn, ← hl, rv.length]) hst fun h' hx => ?_
  have I1 : Inv X pins σ H { s with heap := h' } := I.kept (t' := s.toks) fun b o e => hx b o (Nat.ne_of_lt (Heap.lt_size e)) e
  exact h.run pins _ σ H xs _ Q I1 (by simpa using rv) hw
theorem pg_tupHK {K : PySem.W.Frag} {es : List Expr} {k : Nat} {t : TGs} {n : Nat} (hK : X.K = K) (hc : HotC X) (h : PGs X es t)
    (hn : (assignEach es X.env).length = n := by rfl) (hst : (assignEach es X.env).findIdx? (·.1) = none := by rfl) : PG X (.Tuple es k pos) (gTup K n t) := by
  subst hK
  exact pg_tupH hc h hn hst
end
section
variable {X : Cx} {CX : CXT} {k : Nat} {C f : Addr} {fd : FuncData} {ps : List Str} {sp : Sp} {E : L2.St → XK}
theorem dun_callH {A : Around} {pins : List (Addr × Obj)} {σ : L2.St} {H : Hp} {s : Shared} {vs : List V} {us : List Value} {Q : VK} (F : FnH X.prog X.w X.K X.mg X.base CX k f fd ps sp)
    (hA : A.frames = X.A.frames) (hh : A.handled = X.A.handled) (hr : RoomH k A) (hc : HotC X) (hb : Binds X.K fd ps []) (hx : PassesAt CX X σ (E σ)) (I : Inv X pins σ H s) (rv : Vals vs us) (h : sp vs H Q (E σ)) :
    wpAny (model X.prog X.w) A (call (.ref f) us) (EP X pins σ Q) X.xe s := by
  obtain ⟨p, hot, hp⟩ := hc
  have hl : us.length = ps.length := by rw [← rv.length]; exact F.len _ _ _ _ h
  have b := hb s us I.kIn (by rw [List.append_nil]; exact hl)
  rw [List.append_nil] at b
  have P1 := I.pin p (List.mem_append_left _ hp)
  have hpin : PinOk X.stack H s p := ⟨P1.1, P1.2.1, fun hm => (List.mem_cons.mp (I.stkSub p.1 hm)).elim P1.2.2.1 P1.2.2.2.1, P1.2.2.2.2⟩
  have e0 : Env0 X.prog X.w X.K X.mg X.base A X.stack s H := by
    have e := I.env0
    exact ⟨by rw [hA]; exact e.frames, e.mod, e.bs, e.bsz, e.funs, e.frf, e.hok, e.bare⟩
  refine wpAny_call (codeAny_mono (F.run A X.stack s H ⟨us, []⟩ us vs Q (E σ) p hr ⟨by rw [hh]; exact hot.1, hot.2⟩ hpin e0 b rv h) fun r s' hq => ?_)
  cases r with
  | error e => exact hx pins H s e s' I hq
  | ok fl =>
    cases fl with
    | ret u => exact I.after hq
    | next => exact False.elim hq
    | brk => exact False.elim hq
    | cont => exact False.elim hq
theorem pe_ixOH {a b : Expr} {ta tb : TE} {pos : Pos} (F : FnH X.prog X.w X.K X.mg X.base CX k f fd ps sp) (hr : RoomH (k + 1) X.A) (hc : HotC X) (hb : Binds X.K fd ps []) (hx : ∀ σ, PassesAt CX X σ (E σ))
    (hs : PySem.W.findIn X.K (.ref C) "__getitem__" = some (some (.ref f))) (hfn : PySem.W.fnIn X.K f = true) (hf : PySem.W.isFn X.K (.ref f) = true) (ha : PE X a ta) (hb' : PE X b tb)
    (hsl : ∀ o i, subscripted b true o i = runValue (.builtin "lifetime.subscript" ⟨[o, i], []⟩)) : PE X (.Subscript a b pos) (fun σ H Q => tOp (rIxO C sp (E σ)) ta tb σ H Q) := by
  refine ⟨fun pins s σ H Q I h => ?_⟩
  refine Subscript_ (binT ha hb' I h fun v u s2 x y H2 I2 rx ry q => ?_)
  obtain ⟨p, dx, fs, rfl, hp, q⟩ := q
  cases (show v = Value.ref p from rx)
  obtain ⟨mA, J, _⟩ := ins_get I2.hok hp
  obtain ⟨od, J, _⟩ := J.look
  obtain ⟨m, hF⟩ := I2.fr
  exact PySem.W.sub_K hF I2.ok.mod.kin J hs hfn hf (dun_callH F rfl rfl ⟨by have := hr.dp; show X.A.depth + 3 * k + 5 < _; omega, by have := hr.un; show X.A.units + 1 + 16 * k + 200 < _; omega⟩ hc hb (hx _) I2 (.cons (show RelV (.ref p) (.ref p) from rfl) (.cons ry .nil)) q) (hsl _ _)
end
section
variable {X : Cx} {a b c : Expr} {ta tb tc : TT} {pos : Pos}
/-- the test a if c else b -/
def tIfT (tc ta tb : TT) : TT := fun σ H Q => tc σ H fun d H1 => if d = true then ta σ H1 Q else tb σ H1 Q
theorem pt_ifExp (hc : PT X c tc) (ha : PT X a ta) (hb : PT X b tb) : PT X (.IfExp c a b pos) (tIfT tc ta tb) := by
  refine ⟨fun pins s σ H Q I h => ?_⟩
  refine isTrue_IfExp (thn (hc.run pins s σ H _ I h) fun d s1 ⟨H1, I1, q1⟩ => ?_)
  cases d with
  | true => exact ha.run pins s1 σ H1 Q I1 q1
  | false => exact hb.run pins s1 σ H1 Q I1 q1
end
end Wk
/-! turned. -/
namespace T77
open PySem PySem.Spec PyProof.Rows L2 L2H Wk Vb StX RZ HT
abbrev sTurned : Stmt := top 25
theorem scTu : FnScope ["web", "walk", "sign", "changes", "u", "v", "of_pass", "pair", "changed", "number", "_", "others", "tie"] ["web", "walk", "sign"] (defScope sTurned) := ⟨rfl, rfl, rfl, by decide +kernel, rfl, by decide +kernel, by decide +kernel⟩
def spTurned (K : PySem.W.Frag) (C cT cF : Addr) : Sp := fun vs H Q E => ∃ (w W : Addr) (n : Nat) (am : Int → Int → Int) (T Z : List T3) (ws : List Int) (s : Int), vs = [.ref w, .ref W, .int s] ∧ WA K C H w n am T ∧ T.length ≤ 1900 ∧ SqL K H W (ws.map V.int) ∧ Walk n ws ∧ (s = 1 ∨ s = -1) ∧
  Z.Perm (sumP (pas s ws)) ∧ Z.Pairwise lt2 ∧
  (∀ p, (Z.filter (lowB am)).head? = some p → ∀ H' R d, Same H H' → H' R = some (.tup [.int p.1, .int p.2.1]) → H' d = none → E (.ref cF) (some d) (upd H' d (.xd [("pair", .ref R)]))) ∧
  (Z.filter (lowB am) = [] → (∃ p ∈ Z, highB am p = true) → ∀ H' d, Same H H' → H' d = none → E (.ref cT) (some d) (upd H' d (.xd [("limit", .int 1000000000)]))) ∧
  (Z.filter (lowB am) = [] → (∀ p ∈ Z, highB am p = false) → ∀ H' x T', Same H H' → WA K C H' x n (fun u v => am u v + amt (sumP (pas s ws)) u v) T' → Q (.ref x) H')
theorem sd1 {S : List T3} : (S.map ent).map (·.1) = (S.map kk).map (·.map Sum.inl) := by rw [List.map_map, List.map_map]; rfl
theorem bdK_of {S : List T3} {n : Nat} (hn : n ≤ 60) (h : ∀ p ∈ S, 0 ≤ p.1 ∧ p.1 < p.2.1 ∧ p.2.1 < (n : Int)) : ∀ p ∈ S, TS.Bd 61 (kk p) := fun p hp m hm => by
  have a := h p hp
  unfold kk at hm
  simp only [List.mem_cons, List.not_mem_nil, or_false] at hm
  rcases hm with rfl | rfl <;> omega
/-- a dict's keys as a list, sorted -/
theorem sort_listTD {K : PySem.W.Frag} {H : Hp} {B : Int} {ys : List (Addr × List Int)} {ks : List (List Int)} (h1 : ys.map (·.2) = ks) (h2 : ∀ y ∈ ys, H y.1 = some (.tup (y.2.map V.int))) {zs : List V} (hp : zs.Perm (ys.map fun y => V.ref y.1))
    (ho : zs.Pairwise (fun x y => ∀ n m, TupI K H x n → TupI K H y m → TS.code B n ≤ TS.code B m)) : ∃ ys2 : List (Addr × List Int), zs = ys2.map (fun y => V.ref y.1) ∧ (ys2.map (·.2)).Perm ks ∧ (ys2.map (·.2)).Pairwise (fun n m => TS.code B n ≤ TS.code B m) ∧ ∀ y ∈ ys2, y ∈ ys := by
  obtain ⟨ys2, hq, rfl⟩ := perm_back hp rfl
  have tu : ∀ y ∈ ys2, TupI K H (.ref y.1) y.2 := fun y hy => ⟨_, rfl, .inl (.inl (h2 y (hq.mem_iff.mp hy)))⟩
  refine ⟨ys2, rfl, h1 ▸ hq.map _, ?_, fun y hy => hq.mem_iff.mp hy⟩
  rw [List.pairwise_map] at ho ⊢
  exact ho.imp_of_mem fun {a b} ha hb h => h _ _ (tu a ha) (tu b hb)
theorem ex_one {Z : List T3} {ys : List (Addr × List Int)} {j : Nat} {y : Addr × List Int} (hZk : Z.map kk = ys.map (·.2)) (hy : ys[j]? = some y) : ∃ r, Z[j]? = some r ∧ y.2 = [r.1, r.2.1] := by
  have e1 : (ys.map (·.2))[j]? = some y.2 := by rw [List.getElem?_map, hy]; rfl
  rw [← hZk, List.getElem?_map] at e1
  obtain ⟨r, hr, e⟩ := Option.map_eq_some_iff.mp e1
  exact ⟨r, hr, e.symm⟩
theorem valV_inS {S : List T3} (hd : Dif S) (u v : Int) : (valV (S.map ent) [.inl u, .inl v]).isSome = inS S u v := by
  rcases valV_ent (u := u) (v := v) hd with ⟨a, b⟩ | ⟨a, q, hq, b⟩
  · rw [a]
    symm
    cases e : inS S u v with
    | false => rfl
    | true => obtain ⟨q, hq, k⟩ := inS_iff.mp e; exact (b q hq k).elim
  · rw [a, inS_iff.mpr ⟨q, hq, b⟩]
    rfl
/-- pairs of a pair of places and a number -/
structure ChL (H : Hp) (zs : List V) (T : List T3) : Prop where
  len : zs.length = T.length
  at' : ∀ (j : Nat) (p : T3), T[j]? = some p → ∃ R y, zs[j]? = some (V.ref R) ∧ H R = some (HO.tup [V.ref y, V.int p.2.2]) ∧ H y = some (HO.tup [V.int p.1, V.int p.2.1])
theorem ChL.same {H H' : Hp} {zs : List V} {T : List T3} (h : ChL H zs T) (s : Same H H') : ChL H' zs T := ⟨h.len, fun j p e => let ⟨R, y, a, b, c⟩ := h.at' j p e; ⟨R, y, a, s _ _ b, s _ _ c⟩⟩
theorem ChL.butL {H H' : Hp} {zs : List V} {T : List T3} {L : Addr} {xs : List V} (hL : H L = some (.lst xs)) (h : ChL H zs T) (s : But L H H') : ChL H' zs T :=
  ⟨h.len, fun j p e => let ⟨R, y, a, b, c⟩ := h.at' j p e; ⟨R, y, a, s _ _ (fun z => by rw [z, hL] at b; cases b) b, s _ _ (fun z => by rw [z, hL] at c; cases c) c⟩⟩
theorem ChL.nil {H : Hp} : ChL H [] [] := ⟨rfl, fun j p e => by cases e⟩
theorem ChL.snoc {H : Hp} {zs : List V} {T : List T3} {R y : Addr} {p : T3} (h : ChL H zs T) (e1 : H R = some (.tup [.ref y, .int p.2.2])) (e2 : H y = some (.tup [.int p.1, .int p.2.1])) : ChL H (zs ++ [.ref R]) (T ++ [p]) := by
  refine ⟨by rw [List.length_append, List.length_append, h.len]; rfl, fun j q e => ?_⟩
  by_cases c : j < T.length
  · rw [List.getElem?_append_left c] at e
    obtain ⟨R', y', a, b, d⟩ := h.at' j q e
    exact ⟨R', y', by rw [List.getElem?_append_left (by rw [h.len]; exact c)]; exact a, b, d⟩
  · have hj := (List.getElem?_eq_some_iff.mp e).1
    rw [List.length_append, List.length_singleton] at hj
    have ej : j = T.length := by omega
    subst ej
    rw [List.getElem?_append_right (Nat.le_refl _), Nat.sub_self] at e
    cases e
    exact ⟨R, y, by rw [List.getElem?_append_right (by rw [h.len]; exact Nat.le_refl _), h.len, Nat.sub_self]; rfl, e1, e2⟩
theorem filter_head {f : T3 → Bool} : ∀ {Z : List T3} {j : Nat} {p : T3}, Z[j]? = some p → f p = true → (∀ q ∈ Z.take j, f q = false) → (Z.filter f).head? = some p
  | a :: Z, 0, p, h, hf, _ => by
    cases h
    rw [List.filter_cons_of_pos hf]
    rfl
  | a :: Z, j + 1, p, h, hf, hb => by
    rw [List.take_succ_cons] at hb
    rw [List.filter_cons_of_neg (by rw [hb a List.mem_cons_self]; exact Bool.false_ne_true)]
    exact filter_head (Z := Z) (by simpa using h) hf fun q hq => hb q (List.mem_cons_of_mem _ hq)
  | [], j, p, h, _, _ => by simp at h
section
variable {P : Program} {w : World} {K : PySem.W.Frag} {mg : Str → Option Value} {base : Heap} {C f : Addr} {fd : FuncData}
theorem ok_turned {cT cF fT fF fg : Addr} {dT dF dg : FuncData} (F : Fun K "turned" "turned" sTurned f fd) (B : Bl mg) (T : TxtW K mg C) (MWeb : MkWeb P w K mg base C) (GG : GetW P w K mg base C 8 fg dg)
    (R_TooFew : ErrC K mg "TooFew" cF fF) (RI_TooFew : ErrI P w K mg base fF dF ["self", "pair"] (spI1 cF "pair")) (R_TooMany : ErrC K mg "TooMany" cT fT) (RI_TooMany : ErrI P w K mg base fT dT ["self", "limit"] (spI1 cT "limit")) (mM : ∃ t, mg "MOST_TIES" = some (.int 1000000000 t))
    (o__passes : Own P w K mg base CX0 2 "_passes" ["walk", "sign"] (spPass K)) : FnOk P w K mg base (L2N.CX P w) 10 f fd ["web", "walk", "sign"] (spTurned K C cT cF) := by
  obtain ⟨tm, m_MOST_TIES⟩ := mM
  refine okN F scTu (fun vs H Q E h => ?_) (fun cdv A outer s H vs Q E hr h => ?_)
  · obtain ⟨w, W, n, am, T, Z, ws, s, rfl, _⟩ := h
    rfl
  · obtain ⟨w1, W, n, am, TT, Z, ws, sg, rfl, V1, hTl, hW, hwk, hs, hZp, hZo, q1, q2, q3⟩ := h
    have hu := hu_of hr
    refine ⟨_, (pss_cons (ps_set (i := 3) scTu.nd rfl (Or.inr rfl) (pe_dnewT))
    (pss_cons (ps_for (passes_of rfl) rfl (pi_list (pe_own o__passes (hr.mono (by decide)) pass0 (pa_cons (pv 1) (pa_cons (pv 2) pa_nil)))) (pg_tup (by rfl) (pgs_cons (pg_name (i := 4) scTu.nd rfl (Or.inl rfl)) (pgs_cons (pg_name (i := 5) scTu.nd rfl (Or.inl rfl)) (pgs_cons (pg_name (i := 6) scTu.nd rfl (Or.inl rfl)) pgs_nil))))
      (pss_cons (ps_set (i := 7) scTu.nd rfl (Or.inl rfl) (pe_tup (pa_cons (pe_callB (call_min2 rfl) (by rfl) B.m_min (by decide +kernel) (pa_cons (pv 4) (pa_cons (pv 5) pa_nil))) (pa_cons (pe_callB (call_max2 rfl) (by rfl) B.m_max (by decide +kernel) (pa_cons (pv 4) (pa_cons (pv 5) pa_nil))) pa_nil))))
      (pss_one (ps_dput hu (pv 3) (pv 7) (pe_op op_add (pe_dget2 hu (pv 3) (pv 7) pe_int ⟨rfl, rfl, rfl, rfl⟩) (pv 6)) rfl))))
    (pss_cons (ps_setLc (i := 8) (own := [("pair", 7)]) (g := (gName 7)) (tt := tYes) rfl scTu.nd rfl rfl (sw_true rfl rfl rfl (by decide +kernel)) (pi_list (pe_callB (cr_sortTA (d := 2) (B := 61) (by decide)) (by rfl) B.m_sorted (by decide +kernel) (pa_cons (pe_callTy (call_listTD rfl) (by rfl) B.m_list (by decide +kernel) (pa_cons (pv 3) pa_nil)) pa_nil))) (blkOk_by (N := ["web", "walk", "sign", "changes", "u", "v", "of_pass", "pair", "changed", "number", "_", "others", "tie"]) (sc := defScope sTurned) (by decide +kernel)) (fun _ _ _ _ _ => pg_name (i := 7) scTu.nd rfl (Or.inl rfl)) (fun _ _ _ _ _ => pts_nil) (fun _ _ _ _ _ => (pe_tup (pa_cons (pv 7) (pa_cons (pe_op op_add (pe_ixO GG.G (hr.mono (by decide)) GG.bG pass0 GG.sG GG.nG GG.iG (pv 0) (pv 7) (fun _ _ => rfl)) (pe_dget hu (pv 3) (pv 7) (fun _ _ => rfl))) pa_nil)))))
    (pss_cons (ps_for (passes_of rfl) rfl (pi_list (pv 8)) (pg_tup (by rfl) (pgs_cons (pg_name (i := 7) scTu.nd rfl (Or.inl rfl)) (pgs_cons (pg_name (i := 9) scTu.nd rfl (Or.inl rfl)) pgs_nil)))
      (pss_one (ps_if (pt_cmpR op_lt (pv 9) pe_int (nomark _))
        (pss_one (L2N.ps_raise rfl (L2N.takes_of rfl rfl rfl rfl) (pmkN_oex R_TooFew.ox R_TooFew.xi R_TooFew.ti RI_TooFew.F (hr.mono (by omega)) RI_TooFew.b pass0 rfl R_TooFew.g (pa_cons (pv 7) pa_nil))))
        pss_nil)))
    (pss_cons (ps_if (pt_val (pe_callB (cr_any rfl) (by rfl) B.m_any (by decide +kernel) (pa_cons (pe_lc (own := [("_", 10), ("number", 9)]) (g := (gTup K 2 (gCons (gName 10) (gCons (gName 9) gNil)))) (tt := tYes) rfl scTu.nd (pi_list (pv 8)) (blkOk_by (N := ["web", "walk", "sign", "changes", "u", "v", "of_pass", "pair", "changed", "number", "_", "others", "tie"]) (sc := defScope sTurned) (by decide +kernel)) (fun _ _ _ _ _ => pg_tup (by rfl) (pgs_cons (pg_name (i := 10) scTu.nd rfl (Or.inl rfl)) (pgs_cons (pg_name (i := 9) scTu.nd rfl (Or.inl rfl)) pgs_nil))) (fun _ _ _ _ _ => pts_nil) (fun _ _ _ _ _ => (pe_cmpR op_gt (pv 9) (pe_glob (v := (.int 1000000000)) rfl m_MOST_TIES ⟨_, rfl⟩) (nomark _)))) pa_nil)))
      (pss_one (L2N.ps_raise rfl (L2N.takes_of rfl rfl rfl rfl) (pmkN_oex R_TooMany.ox R_TooMany.xi R_TooMany.ti RI_TooMany.F (hr.mono (by omega)) RI_TooMany.b pass0 rfl R_TooMany.g (pa_cons (pe_glob (v := (.int 1000000000)) rfl m_MOST_TIES ⟨_, rfl⟩) pa_nil))))
      pss_nil)
    (pss_cons (ps_setLc (i := 11) (own := [("tie", 12)]) (g := (gName 12)) rfl scTu.nd rfl rfl (sw_true rfl rfl rfl (by decide +kernel)) (pi_tup (pe_fld (pv 0) rfl)) (blkOk_by (N := ["web", "walk", "sign", "changes", "u", "v", "of_pass", "pair", "changed", "number", "_", "others", "tie"]) (sc := defScope sTurned) (by decide +kernel)) (fun _ _ _ _ _ => pg_name (i := 12) scTu.nd rfl (Or.inl rfl)) (fun _ _ _ _ _ => pts_one (pt_cmp (pc_dnotin hu (pe_slice (r := rSlA K) sl_tupA (pv 12) po_none (po_some pe_int)) (pv 3)))) (fun _ _ _ _ _ => (pv 12)))
    (pss_one (ps_ret (pe_Web MWeb (hr.mono (by decide)) (pa_cons (pe_fld (pv 0) rfl) (pa_cons (pe_op op_cat (pv 11) (pe_lc (own := [("pair", 7), ("number", 9)]) (g := (gTup K 2 (gCons (gName 7) (gCons (gName 9) gNil)))) (tt := tYes) rfl scTu.nd (pi_list (pv 8)) (blkOk_by (N := ["web", "walk", "sign", "changes", "u", "v", "of_pass", "pair", "changed", "number", "_", "others", "tie"]) (sc := defScope sTurned) (by decide +kernel)) (fun _ _ _ _ _ => pg_tup (by rfl) (pgs_cons (pg_name (i := 7) scTu.nd rfl (Or.inl rfl)) (pgs_cons (pg_name (i := 9) scTu.nd rfl (Or.inl rfl)) pgs_nil))) (fun _ _ _ _ _ => pts_nil) (fun _ _ _ _ _ => (pe_tup (t := (tStar K (tVar 7) (tCons (tVar 9) tNil))) (pa_star (pv 7) (pa_cons (pv 9) pa_nil)))))) pa_nil))))))))))), ?_⟩
    intro D nD
    replace nD : New H D := nD
    have s1 : Same H (upd H D (.dT [])) := same_upd nD
    have hD0 := upd_same (H := H) (a := D) (o := .dT [])
    have b1 : But D H (upd H D (.dT [])) := But.of s1
    generalize (upd H D (.dT [])) = H1 at s1 hD0 b1 ⊢
    refine ⟨_, rfl, _, rfl, W, ws, sg, rfl, hW.ext s1, hwk.len, fun H2 P xs s2 hP hT => ?_⟩
    have hpl : (pas sg ws).length = ws.length - 1 := pas_len
    have hwl := hwk.len
    have hD2 := s2 _ _ hD0
    have PD : P ≠ D := fun z => by rw [z, hD2] at hP; cases hP
    have hxl := hT.length
    refine ⟨P, rfl, ⟨xs, .inl (.inl hP)⟩, ?_⟩
    refine for_list (K := K) (a := P) (xs := xs) (fun i σ H3 => (∃ v4 v5 v6 v7, σ = [some (.ref w1), some (.ref W), some (.int sg), some (.ref D), v4, v5, v6, v7, none, none, none, none, none]) ∧ But D H2 H3 ∧ H3 D = some (.dT ((sumP ((pas sg ws).take i)).map ent))) ⟨⟨_, _, _, _, rfl⟩, But.refl _ _, hD2⟩ (fun i σ H3 _ p => .inl (.inl (p.2.1 _ _ PD hP))) ?_ ?_
    · rintro i x σ H3 hx ⟨⟨v4, v5, v6, v7, rfl⟩, bt, hD⟩
      obtain ⟨p, hp, t, rfl, hSt⟩ := (Trs.butT hD2 bt hT).get hx
      have hi : i < ws.length - 1 := by have := (List.getElem?_eq_some_iff.mp hp).1; omega
      have hSm := sumP_of ((pas sg ws).take i)
      refine ⟨t, _, rfl, hSt, rfl, _, _, rfl, _, _, rfl, _, _, rfl, rfl, ?_⟩
      refine ⟨_, rfl, _, rfl, p.1, p.2.1, rfl, _, rfl, _, rfl, p.1, p.2.1, rfl, (by show 2 ≤ sizeLine; decide), fun R nR => ?_⟩
      have sR := same_upd (o := .tup [.int (norm p).1, .int (norm p).2.1]) nR
      have hD3 := sR _ _ hD
      have hR : (upd H3 R (.tup [.int (norm p).1, .int (norm p).2.1])) R = some (.tup (([.inl (norm p).1, .inl (norm p).2.1] : List Key).map kV)) := upd_same
      refine ⟨_, rfl, D, rfl, .inr ⟨_, .inl hD3⟩, _, rfl, _, DGet.t hD3 hR, _, rfl, amt (sumP ((pas sg ws).take i)) (norm p).1 (norm p).2.1, p.2.2, get_ent hSm.dif, rfl, ?_⟩
      have hl : ((sumP ((pas sg ws).take i)).map ent).length < sizeLine := by
        have := (sumW_of hwk hs (k := i)).len
        rw [List.length_map, sizeLine_eq]
        omega
      refine ⟨_, rfl, _, rfl, D, _, rfl, DPut.t hD3 hR hl, ⟨_, _, _, _, rfl⟩, bt.trans ((But.of sR).trans (But.upd _ _ _)), ?_⟩
      rw [upd_same, put_ent, List.take_add_one, hp]
      exact congrArg (fun z => some (HO.dT (List.map ent z))) sumP_snoc.symm
    rintro σ H3 ⟨⟨v4, v5, v6, v7, rfl⟩, bt, hD⟩
    rw [hxl, List.take_length] at hD
    have s3 : Same H H3 := fun b o z => bt b o (ne_of_none z nD) (s2 _ _ (s1 _ _ z))
    clear bt PD hD2 hP hT b1 hD0 s2 s1
    have hSW : SumW n (sumP (pas sg ws)) := by
      have := sumW_of hwk hs (k := (pas sg ws).length)
      rwa [List.take_length] at this
    generalize hSe : sumP (pas sg ws) = S at hD hSW hZp q3
    have hn60 := V1.n60
    refine ⟨_, rfl, D, _, _, rfl, hD, sd1, (by rw [List.length_map, sizeLine_eq]; have := hSW.len; omega), fun ys L hy1 hy2 nL => ?_⟩
    replace nL : New H3 L := nL
    have sL := same_new (o := .lst (ys.map fun y => V.ref y.1)) nL
    have hL := upd_same (H := H3) (a := L) (o := .lst (ys.map fun y => V.ref y.1))
    have hy3 : ∀ y ∈ ys, (upd H3 L (.lst (ys.map fun y => V.ref y.1))) y.1 = some (.tup (y.2.map V.int)) := fun y hy => sL _ _ (hy2 y hy)
    have hD4 := sL _ _ hD
    have s4 := s3.trans sL
    generalize (upd H3 L (.lst (ys.map fun y => V.ref y.1))) = H4 at hL hy3 hD4 s4 ⊢
    clear hy2 sL nL hD s3
    have hB := bdK_of hn60 hSW.bd
    refine ⟨L, _, rfl, .inl (.inl hL), fun x hx => ?_, fun zs p hperm hord np => ?_⟩
    · obtain ⟨y, hy, rfl⟩ := List.mem_map.mp hx
      have hm : y.2 ∈ S.map kk := by rw [← hy1]; exact List.mem_map.mpr ⟨y, hy, rfl⟩
      obtain ⟨r, hr', e⟩ := List.mem_map.mp hm
      exact ⟨y.2, ⟨_, rfl, .inl (.inl (hy3 y hy))⟩, by rw [← e]; rfl, by rw [← e]; exact hB r hr'⟩
    obtain ⟨y2, rfl, hyp, hyo, hym⟩ := sort_listTD hy1 hy3 hperm hord
    obtain ⟨Z', hZp', hZk, hZo'⟩ := sorted_back hB hyp hyo
    have eZ : Z' = Z := sorted_one hZp' hZp (lt2_of (hSW.dif.perm hZp') hZo') hZo
    subst eZ
    clear hZo' hZp' hyo hyp hperm hord
    replace np : New H4 p := np
    have sp := same_new (o := .lst (y2.map fun y => V.ref y.1)) np
    have hp := upd_same (H := H4) (a := p) (o := .lst (y2.map fun y => V.ref y.1))
    have hy5 : ∀ y ∈ y2, (upd H4 p (.lst (y2.map fun y => V.ref y.1))) y.1 = some (.tup (y.2.map V.int)) := fun y hy => sp _ _ (hy3 y (hym y hy))
    have hD5 := sp _ _ hD4
    have s5 := s4.trans sp
    generalize (upd H4 p (.lst (y2.map fun y => V.ref y.1))) = H5 at hp hy5 hD5 s5 ⊢
    clear hy3 hy1 hym sp np hD4 s4 hL
    have hZl : Z'.length ≤ 14 := by rw [hZp.length_eq]; exact hSW.len
    obtain ⟨dx, t, tys, d0, g0, h1, h2, h3, h4, h5⟩ := V1.web.ex
    refine ⟨p, rfl, ⟨_, .inl (.inl hp)⟩, fun G nG => ?_⟩
    replace nG : New H5 G := nG
    have hyl : y2.length = Z'.length := by have := congrArg List.length hZk; rw [List.length_map, List.length_map] at this; exact this.symm
    refine lc_list (K := K) (a := p) (xs := y2.map fun y => V.ref y.1) (fun j H6 => Same H5 H6 ∧ ∃ zs, H6 G = some (.lst zs) ∧ ChL H6 zs (chg am (Z'.take j))) ⟨same_new nG, [], upd_same, ChL.nil⟩ (fun j H6 _ h => .inl (.inl (h.1 _ _ hp))) ?_ ?_
    · rintro j x H6 hx ⟨m1, zs, m2, m3⟩
      rw [List.getElem?_map] at hx
      obtain ⟨y, hy, rfl⟩ := Option.map_eq_some_iff.mp hx
      obtain ⟨r, hr', hky⟩ := ex_one hZk hy
      have hrS : r ∈ S := hZp.mem_iff.mp (List.mem_of_getElem? hr')
      have hb := hSW.bd r hrS
      have hyt := m1 _ _ (hy5 y (List.mem_of_getElem? hy))
      rw [hky] at hyt
      have sH := s5.trans m1
      have el : (look TT r.1 r.2.1).getD 0 = am r.1 r.2.1 := (look_amt V1.ties hb.2.1).1
      refine ⟨rfl, _, rfl, _, rfl, _, rfl, w1, dx, _, rfl, sH _ _ h1, w1, y.1, n, TT, r.1, r.2.1, rfl, V1.web.same sH, .inl (.inl hyt), fun H7 s7 => ?_⟩
      rw [el]
      have hyt7 := s7 _ _ hyt
      have e2 := DGet.t (k := [.inl r.1, .inl r.2.1]) (s7 _ _ (m1 _ _ hD5)) hyt7
      rw [valV_mem hSW.dif hrS] at e2
      refine ⟨_, rfl, _, rfl, D, _, rfl, e2, am r.1 r.2.1, r.2.2, rfl, rfl, (by show 2 ≤ sizeLine; decide), fun R nR => ?_⟩
      replace nR : New H7 R := nR
      have sR := same_new (o := .tup [V.ref y.1, .int (am r.1 r.2.1 + r.2.2)]) nR
      have hR := upd_same (H := H7) (a := R) (o := .tup [V.ref y.1, .int (am r.1 r.2.1 + r.2.2)])
      have s8 := s7.trans sR
      generalize (upd H7 R (.tup [V.ref y.1, .int (am r.1 r.2.1 + r.2.2)])) = H8 at sR hR s8 ⊢
      have m2' := s8 _ _ m2
      have hj := (List.getElem?_eq_some_iff.mp hr').1
      have m3' := m3.same s8
      have e9 : chg am (Z'.take (j + 1)) = chg am (Z'.take j) ++ [(r.1, r.2.1, am r.1 r.2.1 + r.2.2)] := by
        unfold chg
        rw [List.take_add_one, hr', List.map_append]
        rfl
      have hzl := m3.len
      have hcl : (chg am (Z'.take j)).length = j := by unfold chg; rw [List.length_map, List.length_take]; omega
      refine ⟨zs, m2', by rw [sizeLine_eq]; omega, over nG (m1.trans s8), zs ++ [.ref R], upd_same, ?_⟩
      rw [e9]
      refine ChL.butL m2' (ChL.snoc (y := y.1) m3' ?_ ?_) (But.upd _ _ _)
      · exact hR
      · exact sR _ _ hyt7
    rintro H6 ⟨m1, zs, m2, m3⟩
    rw [List.length_map, hyl, List.take_length] at m3
    have sH := s5.trans m1
    have hD6 := m1 _ _ hD5
    have hcl : (chg am Z').length = Z'.length := by unfold chg; rw [List.length_map]
    have hcg : ∀ (j : Nat) (r : T3), Z'[j]? = some r → (chg am Z')[j]? = some (r.1, r.2.1, am r.1 r.2.1 + r.2.2) := fun j r e => by unfold chg; rw [List.getElem?_map, e]; rfl
    clear m1 hp hy5 hD5 s5 hyl nG
    -- too few
    refine ⟨_, rfl, G, rfl, ⟨_, .inl (.inl m2)⟩, ?_⟩
    refine for_list (K := K) (a := G) (xs := zs) (fun j σ H7 => (∃ v7 v9, σ = [some (.ref w1), some (.ref W), some (.int sg), some (.ref D), v4, v5, v6, v7, some (.ref G), v9, none, none, none]) ∧ Same H6 H7 ∧ ∀ q ∈ Z'.take j, lowB am q = false) ⟨⟨_, _, rfl⟩, Same.refl _, fun q hq => by rw [List.take_zero] at hq; cases hq⟩ (fun j σ H7 _ h => .inl (.inl (h.2.1 _ _ m2))) ?_ ?_
    · rintro j x σ H7 hx ⟨⟨v7, v9, rfl⟩, s7, hlo⟩
      have hj : j < Z'.length := by have := (List.getElem?_eq_some_iff.mp hx).1; rw [m3.len, hcl] at this; exact this
      have hr' := List.getElem?_eq_getElem hj
      generalize Z'[j] = r at hr'
      obtain ⟨R, y, e1, e2, e3⟩ := m3.at' j _ (hcg j r hr')
      rw [hx] at e1
      cases e1
      have e2' := s7 _ _ e2
      have e3' := s7 _ _ e3
      refine ⟨R, _, rfl, .inl (.inl e2'), rfl, _, _, rfl, _, _, rfl, rfl, _, rfl, _, 0, rfl, rfl, _, rfl, ?_⟩
      dsimp only
      by_cases hb : am r.1 r.2.1 + r.2.2 < 0
      · rw [decide_eq_true hb]
        refine ⟨_, rfl, (by show 1 ≤ 1000; decide), fun a na => ⟨a, _, rfl, upd_same, fun dx3 hn ne => ⟨rfl, ?_⟩⟩⟩
        obtain ⟨z0, z1, z2, z3⟩ := mk1 na hn ne
        refine ⟨dx3, _, z1, z2, z0, ?_⟩
        rw [z3]
        exact q1 r (filter_head hr' (decide_eq_true hb) hlo) _ y dx3 (sH.trans s7) e3' z0
      · rw [decide_eq_false hb]
        refine ⟨⟨_, _, rfl⟩, s7, fun q hq => ?_⟩
        rw [List.take_add_one, hr'] at hq
        rcases List.mem_append.mp hq with hq | hq
        · exact hlo q hq
        · cases List.mem_singleton.mp hq
          exact decide_eq_false hb
    rintro σ H7 ⟨⟨v7, v9, rfl⟩, s7, hlo⟩
    rw [m3.len, hcl, List.take_length] at hlo
    have hno : Z'.filter (lowB am) = [] := by
      rw [List.filter_eq_nil_iff]
      exact fun q hq z => by rw [hlo q hq] at z; cases z
    replace m2 := s7 _ _ m2
    replace m3 := m3.same s7
    replace hD6 := s7 _ _ hD6
    replace sH := sH.trans s7
    clear s7 q1
    -- too many
    refine ⟨_, rfl, G, rfl, ⟨_, .inl (.inl m2)⟩, fun N nN => ?_⟩
    replace nN : New H7 N := nN
    refine lc_list (K := K) (a := G) (xs := zs) (fun j H8 => Same H7 H8 ∧ H8 N = some (.lst (((Z'.take j).map (highB am)).map V.bl))) ⟨same_new nN, upd_same⟩ (fun j H8 _ h => .inl (.inl (h.1 _ _ m2))) ?_ ?_
    · rintro j x H8 hx ⟨k1, k2⟩
      have hj : j < Z'.length := by have := (List.getElem?_eq_some_iff.mp hx).1; rw [m3.len, hcl] at this; exact this
      have hr' := List.getElem?_eq_getElem hj
      generalize Z'[j] = r at hr'
      obtain ⟨R, y, e1, e2, e3⟩ := m3.at' j _ (hcg j r hr')
      rw [hx] at e1
      cases e1
      refine ⟨R, _, rfl, .inl (.inl (k1 _ _ e2)), rfl, _, _, rfl, _, _, rfl, rfl, rfl, _, rfl, _, 1000000000, rfl, rfl, _, k2, by rw [List.length_map, List.length_map, List.length_take, sizeLine_eq]; omega, over nN k1, ?_⟩
      rw [upd_same, List.take_add_one, hr', List.map_append, List.map_append]
      rfl
    rintro H8 ⟨k1, k2⟩
    rw [m3.len, hcl, List.take_length] at k2
    refine ⟨N, _, rfl, .inl (.inl k2), _, rfl, ?_⟩
    by_cases hany : (Z'.map (highB am)).any id = true
    · rw [hany]
      rw [List.any_map, List.any_eq_true] at hany
      obtain ⟨q, hq, hh⟩ := hany
      refine ⟨(by show 1 ≤ 1000; decide), fun a na => ⟨a, _, rfl, upd_same, fun dx3 hn ne => ⟨rfl, ?_⟩⟩⟩
      obtain ⟨z0, z1, z2, z3⟩ := mk1 na hn ne
      refine ⟨dx3, _, z1, z2, z0, ?_⟩
      rw [z3]
      exact q2 hno ⟨q, hq, hh⟩ _ dx3 (sH.trans k1) z0
    rw [Bool.eq_false_iff.mpr hany]
    have hhi : ∀ q ∈ Z', highB am q = false := fun q hq => by
      cases e : highB am q with
      | false => rfl
      | true => exact (hany (List.any_eq_true.mpr ⟨true, List.mem_map.mpr ⟨q, hq, e⟩, rfl⟩)).elim
    replace m2 := k1 _ _ m2
    replace m3 := m3.same k1
    replace hD6 := k1 _ _ hD6
    replace sH := sH.trans k1
    clear k1 k2 hany q2 nN
    -- the others
    have h1' := sH _ _ h1
    have h2' := sH _ _ h2
    have h3' := h3.same sH
    have htl := h3.length
    refine ⟨_, rfl, w1, C, dx, _, _, rfl, h1', T.cl, T.n2, lk5t _ _ _ _ _, t, rfl, ⟨_, .inl (.inl h2')⟩, fun O nO => ?_⟩
    replace nO : New H8 O := nO
    refine lc_tup (K := K) (a := t) (xs := tys) (fun j H9 => Same H8 H9 ∧ ∃ os, H9 O = some (.lst os) ∧ Trs K H9 os ((TT.take j).filter fun p => !inS S p.1 p.2.1) ∧ os.length ≤ j) ⟨same_new nO, [], upd_same, True.intro, Nat.le_refl _⟩ (fun j H9 _ h => .inl (.inl (h.1 _ _ h2'))) ?_ ?_
    · rintro j x H9 hx ⟨k1, os, k2, k3, k4⟩
      have hi := (List.getElem?_eq_some_iff.mp hx).1
      obtain ⟨p, hp, t', rfl, hSt⟩ := (h3'.same k1).get hx
      refine ⟨rfl, _, rfl, 2, rfl, t', _, rfl, hSt, fun z => absurd z.2 (show ¬ (HT.sIx 3 3 (some 2) = 3) by decide), fun _ U nU => ?_⟩
      replace nU : New H9 U := nU
      have sU := same_new (o := .tup [V.int p.1, .int p.2.1]) nU
      have hU := upd_same (H := H9) (a := U) (o := .tup [V.int p.1, .int p.2.1])
      have ec : cutV [V.int p.1, V.int p.2.1, V.int p.2.2] none (some 2) = [V.int p.1, V.int p.2.1] := rfl
      rw [ec]
      generalize (upd H9 U (.tup [V.int p.1, .int p.2.1])) = Ha at sU hU ⊢
      have e2 := DGet.t (k := [.inl p.1, .inl p.2.1]) (sU _ _ (k1 _ _ hD6)) hU
      refine ⟨_, rfl, D, _, rfl, e2, _, rfl, ?_⟩
      rw [valV_inS hSW.dif]
      have k2' := sU _ _ k2
      have hTl := V1.len
      cases ei : inS S p.1 p.2.1 with
      | false =>
        refine ⟨_, rfl, os, k2', by rw [sizeLine_eq]; omega, over nO (k1.trans sU), os ++ [.ref t'], upd_same, ?_, by rw [List.length_append, List.length_singleton]; omega⟩
        rw [List.take_add_one, hp, List.filter_append, show (Option.toList (some p)) = [p] from rfl, List.filter_cons_of_pos (by rw [ei]; rfl)]
        exact Trs.append (Trs.but k2' (But.upd _ _ _) (k3.same sU)) ⟨⟨t', rfl, SqT.but k2' (hSt.ext sU) (But.upd _ _ _)⟩, True.intro⟩
      | true =>
        refine ⟨k1.trans sU, os, k2', ?_, by omega⟩
        rw [List.take_add_one, hp, List.filter_append, show (Option.toList (some p)) = [p] from rfl, List.filter_cons_of_neg (by rw [ei]; decide), List.filter_nil, List.append_nil]
        exact k3.same sU
    rintro H9 ⟨k1, os, k2, k3, k4⟩
    rw [htl, List.take_length] at k3
    replace m2 := k1 _ _ m2
    replace m3 := m3.same k1
    replace sH := sH.trans k1
    replace h1' := k1 _ _ h1'
    clear hD6 h2' h3' nO
    -- the web
    refine ⟨_, rfl, w1, C, dx, _, _, rfl, h1', T.cl, T.n1, lk5s _ _ _ _ _, _, rfl, _, rfl, G, rfl, ⟨_, .inl (.inl m2)⟩, fun M nM => ?_⟩
    replace nM : New H9 M := nM
    refine lc_list (K := K) (a := G) (xs := zs) (fun j Ha => Same H9 Ha ∧ ∃ ms, Ha M = some (.lst ms) ∧ Trs K Ha ms ((chg am Z').take j)) ⟨same_new nM, [], upd_same, True.intro⟩ (fun j Ha _ h => .inl (.inl (h.1 _ _ m2))) ?_ ?_
    · rintro j x Ha hx ⟨j1, ms, j2, j3⟩
      have hj : j < (chg am Z').length := by have := (List.getElem?_eq_some_iff.mp hx).1; rw [m3.len] at this; exact this
      have hr' := List.getElem?_eq_getElem hj
      generalize (chg am Z')[j] = r at hr'
      obtain ⟨R, y, e1, e2, e3⟩ := m3.at' j _ hr'
      rw [hx] at e1
      cases e1
      refine ⟨R, _, rfl, .inl (.inl (j1 _ _ e2)), rfl, _, _, rfl, _, _, rfl, rfl, rfl, ?_⟩
      refine ⟨_, rfl, y, _, rfl, .inl (.inl (.inl (j1 _ _ e3))), _, rfl, (by show 3 ≤ sizeLine; decide), fun R2 nR2 => ?_⟩
      replace nR2 : New Ha R2 := nR2
      have sR := same_new (o := .tup [V.int r.1, .int r.2.1, .int r.2.2]) nR2
      have hR := upd_same (H := Ha) (a := R2) (o := .tup [V.int r.1, .int r.2.1, .int r.2.2])
      have er : [V.int r.1, V.int r.2.1] ++ [V.int r.2.2] = [V.int r.1, V.int r.2.1, V.int r.2.2] := rfl
      rw [er]
      generalize (upd Ha R2 (.tup [V.int r.1, .int r.2.1, .int r.2.2])) = Hb at sR hR ⊢
      have j2' := sR _ _ j2
      have hml := j3.length
      rw [List.length_take] at hml
      refine ⟨ms, j2', by rw [sizeLine_eq]; omega, over nM (j1.trans sR), ms ++ [.ref R2], upd_same, ?_⟩
      rw [List.take_add_one, hr']
      exact Trs.append (Trs.but j2' (But.upd _ _ _) (j3.same sR)) ⟨⟨R2, rfl, SqT.but j2' (.inl (.inl hR)) (But.upd _ _ _)⟩, True.intro⟩
    rintro Ha ⟨j1, ms, j2, j3⟩
    rw [m3.len, List.take_length] at j3
    have hO := j1 _ _ k2
    have k3' := k3.same j1
    have sHa := sH.trans j1
    have hml := j3.length
    have hTl := V1.len
    refine ⟨O, M, os, ms, rfl, rfl, hO, j2, by rw [sizeLine_eq]; omega, fun q nq => ?_⟩
    replace nq : New Ha q := nq
    have sq := same_new (o := .lst (os ++ ms)) nq
    have hnorm : ∀ p ∈ (TT.filter fun p => !inS S p.1 p.2.1) ++ chg am Z', p.1 < p.2.1 := fun p hp => by
      rcases List.mem_append.mp hp with hp | hp
      · exact (V1.ties.mem p (List.mem_filter.mp hp).1).2.1
      · obtain ⟨r, hr', rfl⟩ := List.mem_map.mp hp
        exact (hSW.bd r (hZp.mem_iff.mp hr')).2.1
    have hA : amt (((TT.filter fun p => !inS S p.1 p.2.1) ++ chg am Z').map norm) = fun u v => am u v + amt S u v := by
      funext u v
      rw [ties_norm hnorm]
      exact amt_turned V1.ties.am hSW.dif hZp u v
    have hbd : ∀ u v, am u v + amt S u v ≤ 1000000000 := fun u v => by
      cases e : inS S u v with
      | false => rw [amt_out e]; have := V1.bd u v; omega
      | true =>
        obtain ⟨r, hr', rfl, rfl⟩ := inS_iff.mp e
        have a := hhi r (hZp.mem_iff.mpr hr')
        rw [dif_amt hSW.dif hr']
        have := of_decide_eq_false a
        omega
    have hfl : (TT.filter fun p => !inS S p.1 p.2.1).length ≤ TT.length := List.length_filter_le _ _
    refine ⟨n, q, os ++ ms, (TT.filter fun p => !inS S p.1 p.2.1) ++ chg am Z', rfl, .inl (.inl (.inl upd_same)), Trs.append (k3'.same sq) (j3.same sq), hn60, by rw [List.length_append]; omega, fun p hp => ?_, fun u v => by rw [hA]; exact hbd u v, fun H' x T' s' nx ht hw => ?_⟩
    · rcases List.mem_append.mp hp with hp | hp
      · exact ties_ok V1.ties V1.bd p (List.mem_filter.mp hp).1
      · obtain ⟨r, hr', rfl⟩ := List.mem_map.mp hp
        have b := hSW.bd r (hZp.mem_iff.mp hr')
        have lo' := of_decide_eq_false (hlo r hr')
        have hi' := of_decide_eq_false (hhi r hr')
        exact tieB_iff.mpr ⟨by dsimp only; omega, by dsimp only; omega, by dsimp only; omega, by dsimp only; omega, by dsimp only; omega, by dsimp only; omega, by dsimp only; omega⟩
    · rw [hA] at ht
      exact q3 hno hhi H' x T' ((sHa.trans sq).trans s') (mkWA hw ht hn60 hbd)
end
end T77
/-! Comprehensions within comprehensions: readings that name K by a parameter. -/
namespace Wk
open PySem PySem.Spec PyProof.Rows L2 RZ
theorem pi_tupK {X : Cx} {K : PySem.W.Frag} {tg l : Expr} {tl : TE} (hK : X.K = K) (hl : PE X l tl) : PI X tg l (iTup K tl) := by
  subst hK
  exact pi_tup hl
theorem pi_zipAK {X : Cx} {K : PySem.W.Frag} {e e2 : Expr} {ta : TA} {p pos tpos : Pos} {elts : List Expr} {kk : Nat} (hK : X.K = K) (hg : Gl X "zip") (hm : X.mg "zip" = none) (ha : PA X [e, e2] ta)
    (hs : starEach [e, e2] X.env = (false, eval e X.env) :: starEach [e2] X.env := by rfl) (hpl : (backTo pos (starEach [e2] X.env)).any (·.1) = false := by rfl) :
    PI X (.Tuple elts kk tpos) (.Call (.Name "zip" p) [e, e2] [] pos) (iZipA K ta) := by
  subst hK
  exact pi_zipA hg hm ha hs hpl
def rTupOf (K : PySem.W.Frag) : List V → Hp → VK → Prop := fun xs H Q => ∃ p ys, xs = [V.ref p] ∧ ((SqL K H p ys ∧ ∀ l, H l = none → Q (.ref l) (upd H l (.tup ys))) ∨ (SqT K H p ys ∧ Q (.ref p) H))
theorem call_tupleOfK {X : Cx} {K : PySem.W.Frag} (hK : X.K = K) : CallR X (.type "tuple") (rTupOf K) := by
  subst hK
  exact call_tuple_of
end Wk
/-! The law's menus and its grid. -/
namespace T77
open PySem PySem.Spec PyProof.Rows L2 L2H Wk Vb StX RZ HT
def gr (ps : List T3) (i j : Nat) : Int := (ps.map fun p => if (p.1 = (i : Int) ∧ p.2.1 = (j : Int)) ∨ (p.1 = (j : Int) ∧ p.2.1 = (i : Int)) then p.2.2 else 0).sum
theorem gr_snoc {ps : List T3} {p : T3} {i j : Nat} : gr (ps ++ [p]) i j = gr ps i j + if (p.1 = (i : Int) ∧ p.2.1 = (j : Int)) ∨ (p.1 = (j : Int) ∧ p.2.1 = (i : Int)) then p.2.2 else 0 := by
  unfold gr
  rw [List.map_append, List.sum_append, List.map_cons, List.map_nil, List.sum_cons, List.sum_nil, Int.add_zero]
structure GridAt (H : Hp) (a : Addr) (n : Nat) (g : Nat → Nat → Int) : Prop where
  ex : ∃ rs : List Addr, rs.length = n ∧ H a = some (.lst (rs.map V.ref)) ∧ ∀ (i : Nat) r, rs[i]? = some r → H r = some (.lst (((List.range n).map (g i)).map V.int))
theorem GridAt.same {H H' : Hp} {a : Addr} {n : Nat} {g : Nat → Nat → Int} (h : GridAt H a n g) (s : Same H H') : GridAt H' a n g := by
  obtain ⟨rs, h1, h2, h3⟩ := h.ex
  exact ⟨rs, h1, s _ _ h2, fun i r e => s _ _ (h3 i r e)⟩
theorem GridAt.butB {H H' : Hp} {b l : Addr} {c : Nat} {a : Addr} {n : Nat} {g : Nat → Nat → Int} (h : GridAt H a n g) (B : BagAt H b l c) (s : But b H H') : GridAt H' a n g := by
  obtain ⟨rs, h1, h2, h3⟩ := h.ex
  obtain ⟨x0, x1, x2, cs, hb, _⟩ := B.ex
  refine ⟨rs, h1, s _ _ (fun z => ?_) h2, fun i r e => s _ _ (fun z => ?_) (h3 i r e)⟩
  · rw [z, hb] at h2
    injection h2 with h2
    injection h2 with h2
    cases rs with
    | nil => cases h2
    | cons r rs => injection h2 with h2 _; cases h2
  · have := h3 i r e
    rw [z, hb] at this
    injection this with this
    injection this with this
    have e3 := congrArg (fun l => l[3]?) this
    rw [List.map_map, List.getElem?_map] at e3
    cases q : (List.range n)[3]? with
    | none => rw [q] at e3; cases e3
    | some k => rw [q] at e3; injection e3 with e3; cases e3
theorem GridAt.row {H : Hp} {a : Addr} {n : Nat} {g : Nat → Nat → Int} (h : GridAt H a n g) : ∃ rs : List Addr, H a = some (.lst (rs.map V.ref)) ∧ rs.length = n ∧ ∀ i, i < n → ∃ r, (rs.map V.ref)[i]? = some (.ref r) ∧ H r = some (.lst (((List.range n).map (g i)).map V.int)) := by
  obtain ⟨rs, h1, h2, h3⟩ := h.ex
  refine ⟨rs, h2, h1, fun i hi => ?_⟩
  have e : rs[i]? = some (rs[i]'(by omega)) := List.getElem?_eq_getElem _
  exact ⟨_, by rw [List.getElem?_map, e]; rfl, h3 i _ e⟩
abbrev sGrid : Stmt := top 32
theorem ixN_nat {n j : Nat} (h : j < n) : ixN n (j : Int) = some j := by
  unfold ixN
  rw [if_pos (by omega), if_pos (by omega), Int.toNat_natCast]
theorem scGrid : FnScope ["_law_size", "_law_ties", "_law_grid_here", "_law_v", "_law_u", "_law_number"] ["_law_size", "_law_ties"] (defScope sGrid) := ⟨rfl, rfl, rfl, by decide +kernel, rfl, by decide +kernel, by decide +kernel⟩
def spGrid (K : PySem.W.Frag) : Sp := fun vs H Q _ => ∃ (n : Nat) (A : Addr) (ys : List V) (ps : List T3), vs = [.int (n : Int), .ref A] ∧ H A = some (.lst ys) ∧ Trs K H ys ps ∧ n ≤ 60 ∧ ps.length ≤ 1000 ∧ (∀ p ∈ ps, 0 ≤ p.1 ∧ p.1 < p.2.1 ∧ p.2.1 < (n : Int)) ∧
  ∀ H' a, Same H H' → GridAt H' a n (gr ps) → Q (.ref a) H'
section
variable {P : Program} {w : World} {K : PySem.W.Frag} {mg : Str → Option Value} {base : Heap} {C CR f : Addr} {fd : FuncData}
theorem ok_grid (F : Fun K "_law_grid" "_law_grid" sGrid f fd) (B : Bl mg) : FnOk P w K mg base CX0 1 f fd ["_law_size", "_law_ties"] (spGrid K) := by
  refine F.ok scGrid (fun vs H Q E h => ?_) (fun cdv A outer s H vs Q E hr h => ?_)
  · obtain ⟨n, A, ys, ps, rfl, _⟩ := h
    rfl
  · obtain ⟨n, A, ys, ps, rfl, hA, hT, hn, hpl, hb, q⟩ := h
    have hu := hu_of hr
    refine ⟨_, (pss_cons (ps_setLc (i := 2) (own := [("_law_v", 3)]) (g := (gName 3)) (tt := tYes) rfl scGrid.nd rfl rfl (sw_true rfl rfl rfl (by decide +kernel)) (pi_range1 rfl B.m_range (pa_cons (pv 0) pa_nil)) (blkOk_by (N := ["_law_size", "_law_ties", "_law_grid_here", "_law_v", "_law_u", "_law_number"]) (sc := defScope sGrid) (by decide +kernel)) (fun _ _ _ _ _ => pg_name (i := 3) scGrid.nd rfl (Or.inl rfl)) (fun _ _ _ _ _ => pts_nil) (fun _ _ _ _ _ => (pe_op op_rep (pe_lst (pa_cons pe_int pa_nil)) (pv 0))))
    (pss_cons (ps_for PassesOwn.never rfl (pi_list (pv 1)) (pg_tup (by rfl) (pgs_cons (pg_name (i := 4) scGrid.nd rfl (Or.inl rfl)) (pgs_cons (pg_name (i := 3) scGrid.nd rfl (Or.inl rfl)) (pgs_cons (pg_name (i := 5) scGrid.nd rfl (Or.inl rfl)) pgs_nil))))
      (pss_cons (ps_augS (pe_ix ix_list (pv 2) (pv 4) (fun _ _ => rfl)) (pv 3) get_list (pv 5) ip_add set_list)
      (pss_one (ps_augS (pe_ix ix_list (pv 2) (pv 3) (fun _ _ => rfl)) (pv 4) get_list (pv 5) ip_add set_list))))
    (pss_one (ps_ret (pv 2))))), ?_⟩
    refine ⟨_, rfl, (n : Int), rfl, by omega, by omega, fun G nG => ?_⟩
    rw [Int.toNat_natCast]
    replace nG : New H G := nG
    refine lc_range (lo := 0) (n := n) (fun j H5 => Same H H5 ∧ ∃ rs : List Addr, H5 G = some (.lst (rs.map V.ref)) ∧ rs.length = j ∧ rs.Nodup ∧ ∀ r ∈ rs, H r = none ∧ r ≠ G ∧ H5 r = some (.lst (((List.range n).map fun _ => (0 : Int)).map V.int))) ⟨same_new nG, [], upd_same, rfl, List.nodup_nil, fun r hr => by cases hr⟩ ?_ ?_
    · rintro j H5 hj ⟨s5, rs, k1, k2, k3, k4⟩
      refine ⟨rfl, (by show 1 ≤ sizeLine; decide), fun L0 nL0 => ⟨_, rfl, L0, (n : Int), _, rfl, rfl, upd_same, by omega, by omega, by rw [sizeLine_eq, Int.toNat_natCast]; show 1 * n ≤ _; omega, fun M nM => ?_⟩⟩
      rw [rep0]
      replace nL0 : New H5 L0 := nL0
      have s1 := same_new (o := .lst [.int 0]) nL0
      replace nM : New _ M := nM
      have s2 := s1.trans (same_new (o := .lst (((List.range n).map fun _ => (0 : Int)).map V.int)) nM)
      have hM := upd_same (H := upd H5 L0 (.lst [.int 0])) (a := M) (o := .lst (((List.range n).map fun _ => (0 : Int)).map V.int))
      have nM5 : H5 M = none := Same.free s1 nM
      generalize (upd (upd H5 L0 (.lst [.int 0])) M (.lst (((List.range n).map fun _ => (0 : Int)).map V.int))) = H6 at s2 hM ⊢
      have k1' := s2 _ _ k1
      have MG : M ≠ G := fun z => by rw [z, k1] at nM5; cases nM5
      refine ⟨_, k1', by rw [List.length_map, k2, sizeLine_eq]; omega, over nG (s5.trans s2), rs ++ [M], by rw [upd_same, List.map_append]; rfl, by rw [List.length_append, k2]; rfl, ?_, ?_⟩
      · refine List.nodup_append.mpr ⟨k3, List.pairwise_singleton _ _, fun a ha b hb e => ?_⟩
        rw [List.mem_singleton.mp hb] at e
        have := (k4 a ha).2.2
        rw [e, nM5] at this; cases this
      · intro r hr
        rcases List.mem_append.mp hr with hr | hr
        · obtain ⟨e1, e2, e3⟩ := k4 r hr
          exact ⟨e1, e2, by rw [upd_ne e2]; exact s2 _ _ e3⟩
        · cases List.mem_singleton.mp hr
          exact ⟨Same.free s5 nM5, MG, by rw [upd_ne MG]; exact hM⟩
    rintro H5 ⟨s5, rs, k1, k2, k3, k4⟩
    refine ⟨_, rfl, A, rfl, ⟨_, .inl (.inl (s5 _ _ hA))⟩, ?_⟩
    refine for_list (K := K) (a := A) (xs := ys) (fun j σ H6 => (∃ v3 v4 v5, σ = [some (.int (n : Int)), some (.ref A), some (.ref G), v3, v4, v5]) ∧ Same H H6 ∧ H6 G = some (.lst (rs.map V.ref)) ∧ ∀ (i : Nat) r, rs[i]? = some r → H6 r = some (.lst (((List.range n).map (gr (ps.take j) i)).map V.int)))
      ⟨⟨none, none, none, rfl⟩, s5, k1, fun i r e => by rw [(k4 r (List.mem_of_getElem? e)).2.2]; rfl⟩ (fun j σ H6 _ h => .inl (.inl (h.2.1 _ _ hA))) ?_ ?_
    · rintro j xx σ H6 hx ⟨⟨v3, v4, v5, rfl⟩, s6, g1, g2⟩
      obtain ⟨p, hp, t', rfl, hSt⟩ := (hT.same s6).get hx
      have hbd := hb p (List.mem_of_getElem? hp)
      have htk : ps.take (j + 1) = ps.take j ++ [p] := by rw [List.take_add_one, hp]; rfl
      obtain ⟨p1, p2, p3⟩ := p
      dsimp only at hbd hSt
      obtain ⟨u, rfl⟩ := Int.eq_ofNat_of_zero_le hbd.1
      obtain ⟨v, rfl⟩ := Int.eq_ofNat_of_zero_le (show 0 ≤ p2 by omega)
      refine ⟨t', _, rfl, hSt, rfl, _, _, rfl, _, _, rfl, _, _, rfl, rfl, ?_⟩
      have uv : u < v := by omega
      have vn : v < n := by omega
      obtain ⟨ru, hru⟩ : ∃ r, rs[u]? = some r := ⟨_, List.getElem?_eq_getElem (by omega)⟩
      obtain ⟨rv, hrv⟩ : ∃ r, rs[v]? = some r := ⟨_, List.getElem?_eq_getElem (by omega)⟩
      have ruG := (k4 ru (List.mem_of_getElem? hru)).2.1
      have rvG := (k4 rv (List.mem_of_getElem? hrv)).2.1
      have nod : ∀ {i j : Nat} {r : Addr}, rs[i]? = some r → rs[j]? = some r → i = j := fun {i j r} e1 e2 => by
        have hi := (List.getElem?_eq_some_iff.mp e1).1
        exact (List.getElem?_inj hi k3).mp (e1.trans e2.symm)
      have ne : ru ≠ rv := fun z => by rw [z] at hru; have := nod hru hrv; omega
      have gu := g2 u ru hru
      have gv := g2 v rv hrv
      have eG : ∀ {i : Nat} {r : Addr}, rs[i]? = some r → (rs.map V.ref)[i]? = some (.ref r) := fun {i r} e => by rw [List.getElem?_map, e]; rfl
      refine ⟨_, rfl, _, rfl, G, _, (u : Int), _, rfl, rfl, .inl (.inl g1), atI_nat (eG hru), _, rfl, ru, _, v, _, rfl, rfl, gu, range_at vn, _, rfl, _, _, rfl, rfl, ru, _, (v : Int), v, rfl, rfl, gu, by rw [range_len]; exact ixN_nat vn, ?_⟩
      rw [range_set vn]
      have G1 : (upd H6 ru (.lst (((List.range n).map fun x => gr (ps.take j) u x + if x = v then p3 else 0).map V.int))) G = some (.lst (rs.map V.ref)) := by rw [upd_ne (Ne.symm ruG)]; exact g1
      have V1 : (upd H6 ru (.lst (((List.range n).map fun x => gr (ps.take j) u x + if x = v then p3 else 0).map V.int))) rv = some (.lst (((List.range n).map (gr (ps.take j) v)).map V.int)) := by rw [upd_ne (Ne.symm ne)]; exact gv
      have U1 := upd_same (H := H6) (a := ru) (o := .lst (((List.range n).map fun x => gr (ps.take j) u x + if x = v then p3 else 0).map V.int))
      have nr : ∀ {i : Nat} {r : Addr}, rs[i]? = some r → H r = none := fun {i r} e => (k4 r (List.mem_of_getElem? e)).1
      have o1 := over (u := .lst (((List.range n).map fun x => gr (ps.take j) u x + if x = v then p3 else 0).map V.int)) (nr hru) s6
      have K1 : ∀ c, c ≠ ru → (upd H6 ru (.lst (((List.range n).map fun x => gr (ps.take j) u x + if x = v then p3 else 0).map V.int))) c = H6 c := fun c h => upd_ne h
      generalize (upd H6 ru (.lst (((List.range n).map fun x => gr (ps.take j) u x + if x = v then p3 else 0).map V.int))) = H7 at G1 V1 U1 o1 K1 ⊢
      refine ⟨_, rfl, _, rfl, G, _, (v : Int), _, rfl, rfl, .inl (.inl G1), atI_nat (eG hrv), _, rfl, rv, _, u, _, rfl, rfl, V1, range_at (by omega), _, rfl, _, _, rfl, rfl, rv, _, (u : Int), u, rfl, rfl, V1, by rw [range_len]; exact ixN_nat (by omega), ?_⟩
      rw [range_set (by omega)]
      refine ⟨⟨_, _, _, rfl⟩, over (nr hrv) o1, by rw [upd_ne (Ne.symm rvG)]; exact G1, fun i r e => ?_⟩
      rw [htk]
      by_cases cv : r = rv
      · subst cv
        have : i = v := nod e hrv
        subst this
        rw [upd_same]
        congr 4
        funext x
        rw [gr_snoc]
        congr 1
        by_cases c : x = u
        · rw [if_pos c, if_pos (.inr ⟨by rw [c], rfl⟩)]
        · rw [if_neg c, if_neg]
          rintro (⟨z1, z2⟩ | ⟨z1, z2⟩) <;> (try dsimp only at z1) <;> (try dsimp only at z2) <;> omega
      · rw [upd_ne cv]
        by_cases cu : r = ru
        · subst cu
          have : i = u := nod e hru
          subst this
          rw [U1]
          congr 4
          funext x
          rw [gr_snoc]
          congr 1
          by_cases c : x = v
          · rw [if_pos c, if_pos (.inl ⟨rfl, by rw [c]⟩)]
          · rw [if_neg c, if_neg]
            rintro (⟨z1, z2⟩ | ⟨z1, z2⟩)
            · have z2 : (v : Int) = (x : Int) := z2
              omega
            · have z2 : (v : Int) = (i : Int) := z2
              omega
        · rw [K1 r cu, g2 i r e]
          congr 4
          funext x
          rw [gr_snoc, if_neg, Int.add_zero]
          rintro (⟨z1, z2⟩ | ⟨z1, z2⟩)
          · have z1 : (u : Int) = (i : Int) := z1
            exact cu (by rw [show i = u by omega] at e; rw [e] at hru; injection hru)
          · have z2 : (v : Int) = (i : Int) := z2
            exact cv (by rw [show i = v by omega] at e; rw [e] at hrv; injection hrv)
    rintro σ H6 ⟨⟨v3, v4, v5, rfl⟩, s6, g1, g2⟩
    rw [hT.length, List.take_length] at g2
    exact ⟨_, rfl, q _ G s6 ⟨rs, k2, g1, g2⟩⟩
end
def spOne : Sp := fun vs H Q _ => ∃ (b l m : Addr) (n : Nat) (xs : List V), vs = [.ref b, .ref m] ∧ BagAt H b l n ∧ n ≤ 900000 ∧ m ≠ b ∧ H m = some (.lst xs) ∧ 1 ≤ xs.length ∧ xs.length ≤ 100 ∧
  ∀ H' (i : Nat) x, BagAt H' b l (n + 1) → But b H H' → xs[i]? = some x → Q x H'
abbrev sOne : Stmt := top 31
theorem scOn : FnScope ["_law_bag_here", "_law_menu"] ["_law_bag_here", "_law_menu"] (defScope sOne) := ⟨rfl, rfl, rfl, by decide +kernel, rfl, by decide +kernel, by decide +kernel⟩
section
variable {P : Program} {w : World} {K : PySem.W.Frag} {mg : Str → Option Value} {base : Heap} {C f : Addr} {fd : FuncData}
theorem ok_one (F : Fun K "_law_one" "_law_one" sOne f fd) (B : Bl mg) (o__law_take : Own P w K mg base CX0 1 "_law_take" ["_law_bag_here", "_law_many"] spTake) : FnOk P w K mg base CX0 2 f fd ["_law_bag_here", "_law_menu"] spOne := by
  refine F.ok scOn (fun vs H Q E h => ?_) (fun cdv A outer s H vs Q E hr h => ?_)
  · obtain ⟨b, l, m, n, xs, rfl, _⟩ := h
    rfl
  · obtain ⟨b, l, m, n, xs, rfl, hB, hn, mb, hm, h1, h2, q⟩ := h
    refine ⟨_, (pss_one (ps_ret (pe_ix ix_list (pv 1) (pe_own o__law_take (hr.mono (by decide)) pass0 (pa_cons (pv 0) (pa_cons (pe_callB call_len_seq (by rfl) B.m_len PySem.boot_len (pa_cons (pv 1) pa_nil)) pa_nil))) (fun _ _ => rfl)))), ?_⟩
    refine ⟨_, rfl, _, rfl, _, rfl, m, xs, rfl, .inl (.inl (.inl hm)), b, l, (xs.length : Int), n, rfl, by omega, by omega, hB, by omega, fun r H' r0 r1 B' b' => ?_⟩
    obtain ⟨j, rfl⟩ := Int.eq_ofNat_of_zero_le r0
    have hj : j < xs.length := by omega
    have hx := List.getElem?_eq_getElem hj
    exact ⟨m, xs, j, _, rfl, rfl, .inl (.inl (b' _ _ mb hm)), L2.atI_nat hx, q H' j _ B' b' hx⟩
end
end T77
/-! The law's sums of a walk. -/
namespace T77
open PySem PySem.Spec PyProof.Rows L2 L2H Wk Vb StX RZ HT
abbrev sSums : Stmt := top 35
theorem scSu : FnScope ["_law_walk_here", "_law_sign", "_law_sums_here", "_law_k", "_law_pair"] ["_law_walk_here", "_law_sign"] (defScope sSums) := ⟨rfl, rfl, rfl, by decide +kernel, rfl, by decide +kernel, by decide +kernel⟩
def spSums (K : PySem.W.Frag) : Sp := fun vs H Q _ => ∃ (W : Addr) (n : Nat) (ws : List Int) (s : Int), vs = [.ref W, .int s] ∧ SqL K H W (ws.map V.int) ∧ Walk n ws ∧ (s = 1 ∨ s = -1) ∧
  ∀ H' D, Same H H' → New H D → H' D = some (.dT ((sumP (pas s ws)).map ent)) → Q (.ref D) H'
section
variable {P : Program} {w : World} {K : PySem.W.Frag} {mg : Str → Option Value} {base : Heap} {C f : Addr} {fd : FuncData}
theorem ok_sums (F : Fun K "_law_sums" "_law_sums" sSums f fd) (B : Bl mg) : FnOk P w K mg base CX0 1 f fd ["_law_walk_here", "_law_sign"] (spSums K) := by
  refine F.ok scSu (fun vs H Q E h => ?_) (fun cdv A outer s H vs Q E hr h => ?_)
  · obtain ⟨W, n, ws, s, rfl, _⟩ := h
    rfl
  · obtain ⟨W, n, ws, sg, rfl, hW, hwk, hs, q⟩ := h
    have hu := hu_of hr
    refine ⟨_, (pss_cons (ps_set (i := 2) scSu.nd rfl (Or.inl rfl) (pe_dnewT))
    (pss_cons (ps_for PassesOwn.never rfl (pi_range1 rfl B.m_range (pa_cons (pe_op op_sub (pe_callB call_len_seq (by rfl) B.m_len PySem.boot_len (pa_cons (pv 0) pa_nil)) pe_int) pa_nil)) (pg_name (i := 3) scSu.nd rfl (Or.inl rfl))
      (pss_cons (ps_set (i := 4) scSu.nd rfl (Or.inl rfl) (pe_tup (pa_cons (pe_callB (call_min2 rfl) (by rfl) B.m_min (by decide +kernel) (pa_cons (pe_ix ix_list (pv 0) (pv 3) (fun _ _ => rfl)) (pa_cons (pe_ix ix_list (pv 0) (pe_op op_add (pv 3) pe_int) (fun _ _ => rfl)) pa_nil))) (pa_cons (pe_callB (call_max2 rfl) (by rfl) B.m_max (by decide +kernel) (pa_cons (pe_ix ix_list (pv 0) (pv 3) (fun _ _ => rfl)) (pa_cons (pe_ix ix_list (pv 0) (pe_op op_add (pv 3) pe_int) (fun _ _ => rfl)) pa_nil))) pa_nil))))
      (pss_one (ps_dput hu (pv 2) (pv 4) (pe_op op_add (pe_dget2 hu (pv 2) (pv 4) pe_int ⟨rfl, rfl, rfl, rfl⟩) (pe_ifExp (pt_cmpR op_eq (pe_op op_mod (pe_callTy call_int1 (by rfl) B.m_int (by decide +kernel) (pa_cons (pv 3) pa_nil)) pe_int) pe_int (nomark _)) (pv 1) (pe_un un_neg (pv 1)))) rfl))))
    (pss_one (ps_ret (pv 2))))), ?_⟩
    intro D nD
    replace nD : New H D := nD
    have s1 : Same H (upd H D (.dT [])) := same_upd nD
    have hD0 := upd_same (H := H) (a := D) (o := .dT [])
    generalize (upd H D (.dT [])) = H1 at s1 hD0 ⊢
    have hW1 := hW.ext s1
    have hwl := hwk.len
    have hpl : (pas sg ws).length = ws.length - 1 := pas_len
    refine ⟨_, rfl, W, _, rfl, .inl hW1, _, 1, rfl, rfl, _, rfl, by rw [List.length_map]; omega, by rw [List.length_map]; omega, ?_⟩
    have en : (((ws.map V.int).length : Int) - 1).toNat = ws.length - 1 := by rw [List.length_map]; omega
    rw [en]
    refine for_it walk_range (fun i σ H3 => (∃ v3 v4, σ = [some (.ref W), some (.int sg), some (.ref D), v3, v4]) ∧ Same H H3 ∧ H3 D = some (.dT ((sumP ((pas sg ws).take i)).map ent))) ⟨⟨_, _, rfl⟩, s1, hD0⟩ (fun _ _ _ _ _ => True.intro) ?_ ?_
    · rintro i x σ H3 H4 hi ⟨⟨v3, v4, rfl⟩, s3, hD⟩ ⟨rfl, rfl⟩
      have hW3 := hW.ext s3
      have hi' : i + 1 < ws.length := by omega
      have g0 : ws[i]? = some (ws.getD i 0) := by rw [List.getD_eq_getElem?_getD, List.getElem?_eq_getElem (by omega)]; rfl
      have g1 : ws[i + 1]? = some (ws.getD (i + 1) 0) := by rw [List.getD_eq_getElem?_getD, List.getElem?_eq_getElem (by omega)]; rfl
      have e0 : (ws.map V.int)[i]? = some (.int (ws.getD i 0)) := by rw [List.getElem?_map, g0]; rfl
      have e1 : atI (ws.map V.int) ((i : Int) + 1) = some (.int (ws.getD (i + 1) 0)) := by
        rw [show (i : Int) + 1 = ((i + 1 : Nat) : Int) by omega]
        exact atI_nat (by rw [List.getElem?_map, g1]; rfl)
      have htk := pas_take (s := sg) (ws := ws) (i := i) (by omega)
      generalize ws.getD i 0 = u at e0 htk
      generalize ws.getD (i + 1) 0 = v at e1 htk
      have hSm := sumP_of ((pas sg ws).take i)
      dsimp only
      rw [Int.zero_add]
      refine ⟨_, rfl, _, rfl, W, _, (i : Int), _, rfl, rfl, hW3, atI_nat e0, _, rfl, _, rfl, _, 1, rfl, rfl, W, _, _, _, rfl, rfl, hW3, e1, u, v, rfl, ?_⟩
      refine ⟨_, rfl, _, rfl, W, _, (i : Int), _, rfl, rfl, hW3, atI_nat e0, _, rfl, _, rfl, _, 1, rfl, rfl, W, _, _, _, rfl, rfl, hW3, e1, u, v, rfl, (by show 2 ≤ sizeLine; decide), fun R nR => ?_⟩
      have hPn : norm (u, v, sgn sg i) = (if v < u then v else u, if v > u then v else u, sgn sg i) := rfl
      replace nR : New H4 R := nR
      have sR := same_new (o := .tup [V.int (if v < u then v else u), V.int (if v > u then v else u)]) nR
      have hR : (upd H4 R (.tup [V.int (if v < u then v else u), V.int (if v > u then v else u)])) R = some (.tup (([.inl (norm (u, v, sgn sg i)).1, .inl (norm (u, v, sgn sg i)).2.1] : List Key).map kV)) := upd_same
      generalize (upd H4 R (.tup [V.int (if v < u then v else u), V.int (if v > u then v else u)])) = H5 at sR hR ⊢
      have hD3 := sR _ _ hD
      have s5 := s3.trans sR
      have hl : ((sumP ((pas sg ws).take i)).map ent).length < sizeLine := by
        have := (sumW_of hwk hs (k := i)).len
        rw [List.length_map, sizeLine_eq]
        omega
      have hN : (upd H5 D (.dT (putK ((sumP ((pas sg ws).take i)).map ent) [.inl (norm (u, v, sgn sg i)).1, .inl (norm (u, v, sgn sg i)).2.1] (.int (amt (sumP ((pas sg ws).take i)) (norm (u, v, sgn sg i)).1 (norm (u, v, sgn sg i)).2.1 + sgn sg i))))) D = some (.dT ((sumP ((pas sg ws).take (i + 1))).map ent)) := by
        rw [upd_same, put_ent, htk]
        exact congrArg (fun z => some (HO.dT (List.map ent z))) sumP_snoc.symm
      have hS6 := over (u := .dT (putK ((sumP ((pas sg ws).take i)).map ent) [.inl (norm (u, v, sgn sg i)).1, .inl (norm (u, v, sgn sg i)).2.1] (.int (amt (sumP ((pas sg ws).take i)) (norm (u, v, sgn sg i)).1 (norm (u, v, sgn sg i)).2.1 + sgn sg i)))) nD s5
      refine ⟨_, rfl, D, rfl, .inr ⟨_, .inl hD3⟩, _, rfl, _, DGet.t hD3 hR, ?_⟩
      rw [get_ent hSm.dif]
      by_cases c : i % 2 = 0
      · have c' : (i : Int) % 2 = 0 := by omega
        have es : sgn sg i = sg := if_pos c
        rw [es] at hN hS6 hR ⊢
        refine ⟨_, rfl, .inl ⟨_, rfl, _, 2, rfl, rfl, (by show (0 : Int) < 2; decide), rfl, _, rfl, ?_⟩⟩
        rw [decide_eq_true (show V.int ((i : Int) % 2) = V.int 0 by rw [c'])]
        exact ⟨_, rfl, _, sg, rfl, rfl, _, rfl, _, rfl, D, _, rfl, DPut.t hD3 hR hl, ⟨_, _, rfl⟩, hS6, hN⟩
      · have c' : ¬ (i : Int) % 2 = 0 := by omega
        have es : sgn sg i = -sg := if_neg c
        rw [es] at hN hS6 hR ⊢
        refine ⟨_, rfl, .inl ⟨_, rfl, _, 2, rfl, rfl, (by show (0 : Int) < 2; decide), rfl, _, rfl, ?_⟩⟩
        rw [decide_eq_false (show ¬ V.int ((i : Int) % 2) = V.int 0 from fun z => c' (by injection z))]
        exact ⟨_, rfl, _, rfl, _, -sg, rfl, rfl, _, rfl, _, rfl, D, _, rfl, DPut.t hD3 hR hl, ⟨_, _, rfl⟩, hS6, hN⟩
    · rintro σ H3 ⟨⟨v3, v4, rfl⟩, s3, hD⟩
      rw [← hpl, List.take_length] at hD
      exact ⟨_, rfl, q H3 D s3 nD hD⟩
end
end T77
/-! The law's walk. -/
namespace T77
open PySem PySem.Spec PyProof.Rows L2 L2H Wk Vb StX RZ HT
abbrev sWalk : Stmt := top 33
theorem scWk : FnScope ["_law_bag_here", "_law_size", "_law_first", "_law_walk_here", "_law_spots", "_law_k", "_law_last", "_law_v"] ["_law_bag_here", "_law_size"] (defScope sWalk) := ⟨rfl, rfl, rfl, by decide +kernel, rfl, by decide +kernel, by decide +kernel⟩
def spWalk : Sp := fun vs H Q _ => ∃ (b l : Addr) (c n : Nat), vs = [.ref b, .int (n : Int)] ∧ BagAt H b l c ∧ c + 20 ≤ 900000 ∧ ((2 ≤ n ∧ n ≤ 5) ∨ n = 60) ∧
  ∀ H' W ws, BagAt H' b l (c + 16) → But b H H' → New H W → H' W = some (.lst (ws.map V.int)) → Walk n ws → Q (.ref W) H'
theorem dpI {K : PySem.W.Frag} {H : Hp} : ∀ (ns : List Int), DpAll K H (ns.map V.int) (ns.map .int)
  | [] => .nil
  | _ :: ns => .cons (.int _) (dpI ns)
theorem layI : ∀ (ns : List Int), PyData.canLayAll0 (ns.map PyData.int) = true
  | [] => by simp [PyData.canLayAll0]
  | _ :: ns => by rw [List.map_cons, PyData.canLayAll0, layI ns]; simp [PyData.canLay0]
theorem depI : ∀ (ns : List Int), PyData.depthAll (ns.map PyData.int) ≤ 0
  | [] => by simp [PyData.depthAll]
  | _ :: ns => by rw [List.map_cons, PyData.depthAll]; simp [PyData.depth]; exact Nat.le_zero.mp (depI ns)
theorem shapedI (ns : List Int) : SeqAt.shaped (.tuple (ns.map PyData.int)) = true := by
  unfold SeqAt.shaped
  rw [PyData.canLay0, PyData.depth, layI, Bool.true_and]
  have := depI ns
  exact decide_eq_true (by omega)
theorem shapedL (ns : List Int) : SeqAt.shaped (.list (ns.map PyData.int)) = true := by
  unfold SeqAt.shaped
  rw [PyData.canLay0, PyData.depth, layI, Bool.true_and]
  have := depI ns
  exact decide_eq_true (by omega)
theorem eqvAI : ∀ (T S : List Int), PyData.eqvAll (T.map PyData.int) (S.map PyData.int) = decide (T = S)
  | [], [] => by simp [PyData.eqvAll]
  | [], s :: S => by simp [PyData.eqvAll]
  | t :: T, [] => by simp [PyData.eqvAll]
  | t :: T, s :: S => by
    rw [List.map_cons, List.map_cons, PyData.eqvAll, eqvAI T S, PyData.eqv]
    by_cases h : t = s <;> by_cases g : T = S <;> simp [h, g]
/-- == of lists of numbers -/
theorem eqvLI (T S : List Int) : PyData.eqv (.list (T.map PyData.int)) (.list (S.map PyData.int)) = decide (T = S) := by rw [PyData.eqv, eqvAI]
/-- the places that a walk may take -/
def spI (n : Nat) (a : Int) : List Int := (List.range (min n 5)).map fun (k : Nat) => (a + (k : Int) * (if n > 5 then 11 else 1)).fmod (n : Int)
theorem spI_mem {n : Nat} (hn : (2 ≤ n ∧ n ≤ 5) ∨ n = 60) {a : Int} : ∀ x ∈ spI n a, 0 ≤ x ∧ x < (n : Int) := fun x hx => by
  obtain ⟨k, _, rfl⟩ := List.mem_map.mp hx
  have h0 : (0 : Int) < (n : Int) := by omega
  exact ⟨Int.fmod_nonneg_of_pos _ h0, Int.fmod_lt_of_pos _ h0⟩
theorem spI_other {n : Nat} (hn : (2 ≤ n ∧ n ≤ 5) ∨ n = 60) {a z : Int} : (spI n a).filter (fun x => decide (x ≠ z)) ≠ [] := fun h => by
  rw [List.filter_eq_nil_iff] at h
  have h0 : (0 : Int) < (n : Int) := by omega
  have m0 : (a + ((0 : Nat) : Int) * (if n > 5 then 11 else 1)).fmod (n : Int) ∈ spI n a := List.mem_map.mpr ⟨0, List.mem_range.mpr (by omega), rfl⟩
  have m1 : (a + ((1 : Nat) : Int) * (if n > 5 then 11 else 1)).fmod (n : Int) ∈ spI n a := List.mem_map.mpr ⟨1, List.mem_range.mpr (by omega), rfl⟩
  have a0 := h _ m0
  have a1 := h _ m1
  simp only [decide_eq_true_eq, Decidable.not_not] at a0 a1
  rw [← a0] at a1
  rw [Int.fmod_eq_emod_of_nonneg _ (by omega), Int.fmod_eq_emod_of_nonneg _ (by omega)] at a1
  rcases hn with hn | rfl
  · rw [if_neg (by omega)] at a1
    have d := Int.emod_emod_of_dvd
    have e : ((a + ((1 : Nat) : Int) * 1) - (a + ((0 : Nat) : Int) * 1)) % (n : Int) = 0 := Int.emod_eq_emod_iff_emod_sub_eq_zero.mp a1
    have e1 : (a + ((1 : Nat) : Int) * 1) - (a + ((0 : Nat) : Int) * 1) = 1 := by omega
    rw [e1, Int.emod_eq_of_lt (by omega) (by omega)] at e
    omega
  · rw [if_pos (by omega)] at a1
    omega
theorem last_int {ws : List Int} (c0 : ws ≠ []) : ws.map V.int = ws.dropLast.map V.int ++ [V.int (ws.getD (ws.length - 1) 0)] := by
  have hl0 : 0 < ws.length := List.length_pos_iff.mpr c0
  have e := List.dropLast_concat_getLast c0
  have e2 : ws.getLast c0 = ws.getD (ws.length - 1) 0 := by rw [List.getLast_eq_getElem, List.getD_eq_getElem?_getD, List.getElem?_eq_getElem (by omega)]; rfl
  rw [← e2]
  have := congrArg (List.map V.int) e
  rw [List.map_append] at this
  exact this.symm
theorem branchZ {g : V → (L2.St → Hp → Prop) → Prop} {I : Int → Prop} {G : Prop} {nx : L2.St → Hp → Prop} (hA : (∀ z, I z → g (.int z) nx) → G) (h : ∀ z, I z → g (.int z) nx) : G := hA h
theorem Walk.nil {n : Nat} : Walk n [] := ⟨fun i h => absurd h (Nat.not_lt_zero _), fun i h => absurd h (Nat.not_lt_zero _), Nat.zero_le _⟩
theorem Walk.snoc {n : Nat} {ws : List Int} {v : Int} (h : Walk n ws) (h0 : 0 ≤ v) (h1 : v < (n : Int)) (hl : ws.length < 14) (hne : ws ≠ [] → ws.getD (ws.length - 1) 0 ≠ v) : Walk n (ws ++ [v]) := by
  have g : ∀ i, i < ws.length → (ws ++ [v]).getD i 0 = ws.getD i 0 := fun i hi => by
    rw [List.getD_eq_getElem?_getD, List.getD_eq_getElem?_getD, List.getElem?_append_left hi]
  have gl : (ws ++ [v]).getD ws.length 0 = v := by
    rw [List.getD_eq_getElem?_getD, List.getElem?_append_right (Nat.le_refl _), Nat.sub_self]
    rfl
  refine ⟨fun i hi => ?_, fun i hi => ?_, by rw [List.length_append, List.length_singleton]; omega⟩
  · rw [List.length_append, List.length_singleton] at hi
    by_cases c : i < ws.length
    · rw [g i c]; exact h.mem i c
    · rw [show i = ws.length by omega, gl]; exact ⟨h0, h1⟩
  · rw [List.length_append, List.length_singleton] at hi
    by_cases c : i + 1 < ws.length
    · rw [g i (by omega), g (i + 1) c]; exact h.ne i c
    · have e : i + 1 = ws.length := by omega
      rw [g i (by omega), e, gl, show i = ws.length - 1 by omega]
      exact hne fun z => by rw [z] at e; cases e
section
variable {P : Program} {w : World} {K : PySem.W.Frag} {mg : Str → Option Value} {base : Heap} {C f : Addr} {fd : FuncData}
theorem ok_walk (F : Fun K "_law_walk" "_law_walk" sWalk f fd) (B : Bl mg) (o__law_take : Own P w K mg base CX0 1 "_law_take" ["_law_bag_here", "_law_many"] spTake) (o__law_one : Own P w K mg base CX0 2 "_law_one" ["_law_bag_here", "_law_menu"] spOne) : FnOk P w K mg base CX0 3 f fd ["_law_bag_here", "_law_size"] spWalk := by
  refine F.ok scWk (fun vs H Q E h => ?_) (fun cdv A outer s H vs Q E hr h => ?_)
  · obtain ⟨b, l, c, n, rfl, _⟩ := h
    rfl
  · obtain ⟨b, l, c, n, rfl, B1, hc, hn, q⟩ := h
    have hu := hu_of hr
    refine ⟨_, (pss_cons (ps_asg (pe_tup (pa_cons (pe_own o__law_take (hr.mono (by decide)) pass0 (pa_cons (pv 0) (pa_cons (pv 1) pa_nil))) (pa_cons (pe_lst pa_nil) pa_nil))) (pg_tup (by rfl) (pgs_cons (pg_name (i := 2) scWk.nd rfl (Or.inr rfl)) (pgs_cons (pg_name (i := 3) scWk.nd rfl (Or.inl rfl)) pgs_nil))))
    (pss_cons (ps_setLc (i := 4) (own := [("_law_k", 5)]) (g := (gName 5)) (tt := tYes) rfl scWk.nd rfl rfl (sw_true rfl rfl rfl (by decide +kernel)) (pi_range1 rfl B.m_range (pa_cons (pe_callB (call_min2 rfl) (by rfl) B.m_min (by decide +kernel) (pa_cons (pv 1) (pa_cons pe_int pa_nil))) pa_nil)) (blkOk_by (N := ["_law_bag_here", "_law_size", "_law_first", "_law_walk_here", "_law_spots", "_law_k", "_law_last", "_law_v"]) (sc := defScope sWalk) (by decide +kernel)) (fun _ _ _ _ _ => pg_name (i := 5) scWk.nd rfl (Or.inl rfl)) (fun _ _ _ _ _ => pts_nil) (fun _ _ _ _ _ => (pe_op op_modN (pe_callTy call_int1 (by rfl) B.m_int (by decide +kernel) (pa_cons (pe_op op_add (pv 2) (pe_op op_mul (pv 5) (pe_ifExp (pt_cmpR op_gt (pv 1) pe_int (nomark _)) pe_int pe_int))) pa_nil)) (pv 1))))
    (pss_cons (ps_for PassesOwn.never rfl (pi_range1 rfl B.m_range (pa_cons (pe_ix ix_list (pe_lst (pa_cons pe_int (pa_cons pe_int (pa_cons pe_int (pa_cons pe_int (pa_cons pe_int (pa_cons pe_int pa_nil))))))) (pe_own o__law_take (hr.mono (by decide)) pass0 (pa_cons (pv 0) (pa_cons pe_int pa_nil))) (fun _ _ => rfl)) pa_nil)) (pg_name (i := 5) scWk.nd rfl (Or.inl rfl))
      (pss_cons (ps_set (i := 6) scWk.nd rfl (Or.inr rfl) (pe_ifExp (pt_cmpR (op_neD hr.units) (pv 3) (pe_lst pa_nil) (nomark _)) (pe_ix ix_list (pv 3) (pe_un un_neg pe_int) (fun _ _ => rfl)) (pe_un un_neg pe_int)))
      (pss_one (ps_expr (pe_bm PySem.F.plainAttrs_list PySem.F.slot_list_append PySem.F.type_list_append mt_append (pv 3) (pa_cons (pe_own o__law_one (hr.mono (by decide)) pass0 (pa_cons (pv 0) (pa_cons (pe_lc (own := [("_law_v", 7)]) (g := (gName 7)) rfl scWk.nd (pi_list (pv 4)) (blkOk_by (N := ["_law_bag_here", "_law_size", "_law_first", "_law_walk_here", "_law_spots", "_law_k", "_law_last", "_law_v"]) (sc := defScope sWalk) (by decide +kernel)) (fun _ _ _ _ _ => pg_name (i := 7) scWk.nd rfl (Or.inl rfl)) (fun _ _ _ _ _ => pts_one (pt_cmpR op_ne (pv 7) (pv 6) (nomark _))) (fun _ _ _ _ _ => (pv 7))) pa_nil))) pa_nil))))))
    (pss_one (ps_ret (pv 3)))))), ?_⟩
    refine ⟨_, rfl, _, rfl, b, l, (n : Int), _, rfl, by omega, by omega, B1, by omega, fun a H2 a0 a1 B2 b2 => ⟨(by show 0 ≤ sizeLine; decide), fun W nW => ?_⟩⟩
    replace nW : New H2 W := nW
    have Wb : W ≠ b := Ne.symm (ne_new nW B2.in'.1.choose_spec)
    have Wl : W ≠ l := Ne.symm (ne_new nW B2.in'.2.choose_spec)
    have nWH : H W = none := by
      cases e : H W with
      | none => rfl
      | some o => have := b2 _ _ Wb e; rw [nW] at this; cases this
    have sW := same_new (o := .lst []) nW
    have hW := upd_same (H := H2) (a := W) (o := .lst [])
    have B3 := B2.same sW
    have b3 : But b H (upd H2 W (.lst [])) := b2.trans (But.of sW)
    generalize (upd H2 W (.lst [])) = H3 at hW B3 b3 ⊢
    refine ⟨(by show 2 ≤ sizeLine; decide), fun R nR => ?_⟩
    replace nR : New H3 R := nR
    have sR := same_new (o := .tup [V.int a, .ref W]) nR
    refine ⟨R, _, rfl, .inl (.inl upd_same), rfl, _, _, rfl, _, _, rfl, rfl, ?_⟩
    replace hW := sR _ _ hW
    replace B3 := B3.same sR
    replace b3 := b3.trans (But.of sR)
    generalize (upd H3 R (.tup [V.int a, .ref W])) = H4 at hW B3 b3 ⊢
    clear sR nR sW B2 b2 nW
    -- the spots
    refine ⟨_, rfl, (n : Int), 5, rfl, _, rfl, ?_⟩
    rw [show (if (5 : Int) < (n : Int) then (5 : Int) else (n : Int)) = ((min n 5 : Nat) : Int) by split <;> omega]
    refine ⟨by omega, by omega, fun S nS => ?_⟩
    rw [Int.toNat_natCast]
    replace nS : New H4 S := nS
    have Sb : S ≠ b := Ne.symm (ne_new nS B3.in'.1.choose_spec)
    have hsl : (spI n a).length = min n 5 := by unfold spI; rw [List.length_map, List.length_range]
    refine lc_range (lo := 0) (n := min n 5) (fun j H5 => Same H4 H5 ∧ H5 S = some (.lst (((spI n a).take j).map V.int))) ⟨same_new nS, upd_same⟩ ?_ ?_
    · rintro j H5 hj ⟨k1, k2⟩
      have hsj : (spI n a)[j]? = some ((a + (j : Int) * (if n > 5 then 11 else 1)).fmod (n : Int)) := by
        unfold spI
        rw [List.getElem?_map, List.getElem?_range hj]
        rfl
      have fin : ∀ z : Int, z = (a + (j : Int) * (if n > 5 then 11 else 1)).fmod (n : Int) → ∃ acc, H5 S = some (.lst acc) ∧ acc.length < sizeLine ∧ Same H4 (upd H5 S (.lst (acc ++ [V.int z]))) ∧ (upd H5 S (.lst (acc ++ [V.int z]))) S = some (.lst (((spI n a).take (j + 1)).map V.int)) := fun z e => by
        refine ⟨_, k2, by rw [List.length_map, List.length_take, sizeLine_eq]; omega, over nS k1, ?_⟩
        rw [upd_same, List.take_add_one, hsj, List.map_append, e]
        rfl
      refine ⟨rfl, _, rfl, _, rfl, _, rfl, (n : Int), 5, rfl, rfl, _, rfl, ?_⟩
      by_cases c5 : n > 5
      · rw [decide_eq_true (show (5 : Int) < (n : Int) by omega)]
        rw [if_pos c5] at fin
        refine ⟨_, 11, rfl, rfl, .inl (by omega), a, _, rfl, rfl, .inl ⟨_, rfl, _, rfl, _, (n : Int), rfl, rfl, by omega, ?_⟩⟩
        exact fin _ (by congr 2; omega)
      · rw [decide_eq_false (show ¬ (5 : Int) < (n : Int) by omega)]
        rw [if_neg c5] at fin
        refine ⟨_, 1, rfl, rfl, .inl (by omega), a, _, rfl, rfl, .inl ⟨_, rfl, _, rfl, _, (n : Int), rfl, rfl, by omega, ?_⟩⟩
        exact fin _ (by congr 2; omega)
    rintro H5 ⟨k1, k2⟩
    rw [← hsl, List.take_length] at k2
    replace hW := k1 _ _ hW
    replace B3 := B3.same k1
    replace b3 := b3.trans (But.of k1)
    clear k1
    refine ⟨(by show 6 ≤ sizeLine; decide), fun L nL => ?_⟩
    replace nL : New H5 L := nL
    have sL := same_new (o := .lst [V.int 0, .int 1, .int 2, .int 3, .int 5, .int 14]) nL
    have hL := upd_same (H := H5) (a := L) (o := .lst [V.int 0, .int 1, .int 2, .int 3, .int 5, .int 14])
    have Lb : L ≠ b := Ne.symm (ne_new nL B3.in'.1.choose_spec)
    replace hW := sL _ _ hW
    replace k2 := sL _ _ k2
    replace B3 := B3.same sL
    replace b3 := b3.trans (But.of sL)
    generalize (upd H5 L (.lst [V.int 0, .int 1, .int 2, .int 3, .int 5, .int 14])) = H6 at hL hW k2 B3 b3 ⊢
    refine ⟨_, rfl, b, l, 6, _, rfl, by decide, by decide, B3, by omega, fun r H7 r0 r1 B7 b7 => ?_⟩
    obtain ⟨r, rfl⟩ := Int.eq_ofNat_of_zero_le r0
    obtain ⟨m, hm, m0⟩ : ∃ m : Nat, ([.int 0, .int 1, .int 2, .int 3, .int 5, .int 14] : List V)[r]? = some (.int (m : Int)) ∧ m ≤ 14 := by
      have : r < 6 := by omega
      match r, this with
      | 0, _ => exact ⟨0, rfl, by decide⟩
      | 1, _ => exact ⟨1, rfl, by decide⟩
      | 2, _ => exact ⟨2, rfl, by decide⟩
      | 3, _ => exact ⟨3, rfl, by decide⟩
      | 4, _ => exact ⟨5, rfl, by decide⟩
      | 5, _ => exact ⟨14, rfl, by decide⟩
    replace hW := b7 _ _ Wb hW
    replace k2 := b7 _ _ Sb k2
    replace b3 := b3.trans b7
    refine ⟨L, _, (r : Int), _, rfl, rfl, .inl (.inl (b7 _ _ Lb hL)), atI_nat hm, (m : Int), rfl, by omega, by omega, ?_⟩
    rw [Int.toNat_natCast]
    have WS : W ≠ S := fun z => by rw [z, k2] at hW; injection hW with hW; injection hW with hW; have := congrArg List.length hW; rw [List.length_map, hsl] at this; simp at this; omega
    clear hL Lb B3 b7 r0 r1 hm
    refine for_it walk_range (fun i σ H8 => (∃ v5 v6 v7, σ = [some (.ref b), some (.int (n : Int)), some (.int a), some (.ref W), some (.ref S), v5, v6, v7]) ∧ BagAt H8 b l (c + 2 + i) ∧ But b H H8 ∧ H8 S = some (.lst ((spI n a).map V.int)) ∧ ∃ ws : List Int, H8 W = some (.lst (ws.map V.int)) ∧ ws.length = i ∧ Walk n ws) ⟨⟨_, _, _, rfl⟩, B7, b3, k2, [], hW, rfl, Walk.nil⟩ (fun _ _ _ _ _ => True.intro) ?_ ?_
    · rintro i x σ H8 H9 hi ⟨⟨v5, v6, v7, rfl⟩, B8, b8, hS8, ws, hW8, hwl, hwk⟩ ⟨rfl, rfl⟩
      have d1 : Dp K H9 (.ref W) (.list (ws.map PyData.int)) := .lst (.inl (.inl hW8)) (dpI ws)
      refine ⟨_, rfl, (by show 0 ≤ sizeLine; decide), fun E0' nE => ?_⟩
      replace nE : New H9 E0' := nE
      have sE := same_new (o := .lst []) nE
      have hE := upd_same (H := H9) (a := E0') (o := .lst [])
      replace hW8 := sE _ _ hW8
      replace hS8 := sE _ _ hS8
      replace B8 := B8.same sE
      replace b8 := b8.trans (But.of sE)
      generalize (upd H9 E0' (.lst [])) = Ha at hE hW8 hS8 B8 b8 ⊢
      refine ⟨_, _, .lst (.inl (.inl hW8)) (dpI ws), .lst (.inl (.inl hE)) (dpI []), shapedL ws, shapedL [], _, rfl, ?_⟩
      rw [eqvLI]
      apply branchZ (g := fun x nx => gName 6 x ([some (.ref b), some (.int (n : Int)), some (.int a), some (.ref W), some (.ref S), v5, v6, v7].set 5 (some ((fun (i : Nat) => V.int (0 + (i : Int))) i))) Ha nx) (I := fun z => ws ≠ [] → ws.getD (ws.length - 1) 0 = z)
      · intro rest
        refine ite2 (fun hc => ?_) (fun hc => ?_)
        · have c0 : ws ≠ [] := fun z => by rw [decide_eq_true z] at hc; cases hc
          have g0 : ws.map V.int = ws.dropLast.map V.int ++ [V.int (ws.getD (ws.length - 1) 0)] := last_int c0
          exact ⟨_, rfl, 1, rfl, W, _, -1, .int (ws.getD (ws.length - 1) 0), rfl, rfl, .inl (.inl hW8), by rw [g0]; exact atI_last _ _, rest _ fun _ => rfl⟩
        · have c0 : ws = [] := by
            cases e : decide (ws = []) with
            | true => exact of_decide_eq_true e
            | false => rw [e] at hc; exact (hc rfl).elim
          exact ⟨_, rfl, rest (-1) fun h => (h c0).elim⟩
      intro z hz
      refine ⟨_, rfl, .inl ⟨rfl, _, .inl (.inl hW8)⟩, _, rfl, _, rfl, S, rfl, ⟨_, .inl (.inl hS8)⟩, fun M nM => ?_⟩
      replace nM : New Ha M := nM
      have Mb : M ≠ b := Ne.symm (ne_new nM B8.in'.1.choose_spec)
      have MW : M ≠ W := Ne.symm (ne_new nM hW8)
      refine lc_list (K := K) (a := S) (xs := (spI n a).map V.int) (fun j H5 => Same Ha H5 ∧ H5 M = some (.lst ((((spI n a).take j).filter fun x => decide (x ≠ z)).map V.int))) ⟨same_new nM, upd_same⟩ (fun j H5 _ h => .inl (.inl (h.1 _ _ hS8))) ?_ ?_
      · rintro j x H5 hx ⟨k1, k2⟩
        rw [List.getElem?_map] at hx
        obtain ⟨v, hv, rfl⟩ := Option.map_eq_some_iff.mp hx
        have hj := (List.getElem?_eq_some_iff.mp hv).1
        have hfl := List.length_filter_le (fun x => decide (x ≠ z)) ((spI n a).take j)
        rw [List.length_take] at hfl
        refine ⟨rfl, _, rfl, _, rfl, rfl, _, rfl, ?_⟩
        by_cases c : v = z
        · rw [decide_eq_true (show V.int v = V.int z by rw [c])]
          refine ⟨k1, ?_⟩
          rw [List.take_add_one, hv, List.filter_append, show (Option.toList (some v)) = [v] from rfl, List.filter_cons_of_neg (by simpa using c), List.filter_nil, List.append_nil]
          exact k2
        · rw [decide_eq_false (show ¬ V.int v = V.int z from fun q => c (by injection q))]
          refine ⟨_, rfl, _, k2, by rw [List.length_map, sizeLine_eq]; omega, over nM k1, ?_⟩
          rw [upd_same, List.take_add_one, hv, List.filter_append, show (Option.toList (some v)) = [v] from rfl, List.filter_cons_of_pos (by simpa using c), List.filter_nil, List.map_append]
          rfl
      rintro H5 ⟨k1, k2⟩
      rw [List.length_map, List.take_length] at k2
      have hne := spI_other hn (a := a) (z := z)
      have hfl := List.length_filter_le (fun x => decide (x ≠ z)) (spI n a)
      refine ⟨b, l, M, _, _, rfl, B8.same k1, by omega, Mb, k2, by rw [List.length_map]; exact List.length_pos_iff.mpr hne, by rw [List.length_map]; omega, fun H6 i2 x B9 b9 hx => ?_⟩
      rw [List.getElem?_map] at hx
      obtain ⟨v, hv, rfl⟩ := Option.map_eq_some_iff.mp hx
      obtain ⟨hvm, hvz⟩ := List.mem_filter.mp (List.mem_of_getElem? hv)
      have hvz : v ≠ z := by simpa using hvz
      have hvb := spI_mem hn v hvm
      have hW9 := b9 _ _ Wb (k1 _ _ hW8)
      have hS9 := b9 _ _ Sb (k1 _ _ hS8)
      refine ⟨W, _, _, rfl, rfl, hW9, by rw [List.length_map, sizeLine_eq]; have := hwk.len; omega, ⟨_, _, _, rfl⟩, (B9.put Wb Wl).mono (by omega), fun c' o hc' ho => ?_, by rw [upd_ne (Ne.symm WS)]; exact hS9, ws ++ [v], by rw [upd_same, List.map_append]; rfl, by rw [List.length_append, hwl]; rfl, hwk.snoc hvb.1 hvb.2 (by omega) fun h0 => by rw [hz h0]; exact Ne.symm hvz⟩
      have h1 := b9 _ _ hc' (k1 _ _ (b8 _ _ hc' ho))
      rw [upd_ne (fun e => by rw [e, nWH] at ho; cases ho)]
      exact h1
    · rintro σ H8 ⟨⟨v5, v6, v7, rfl⟩, B8, b8, hS8, ws, hW8, hwl, hwk⟩
      exact ⟨_, rfl, q H8 W ws (B8.mono (by omega)) b8 nWH hW8 hwk⟩
end
end T77
/-! Some ties beside the walk. -/
namespace T77
open PySem PySem.Spec PyProof.Rows L2 L2H Wk Vb StX RZ HT
abbrev sBes : Stmt := top 34
theorem scBs : FnScope ["_law_bag_here", "_law_size", "_law_sums_here", "_law_found", "_law_k", "_law_u", "_law_v", "_law_pair"] ["_law_bag_here", "_law_size", "_law_sums_here"] (defScope sBes) := ⟨rfl, rfl, rfl, by decide +kernel, rfl, by decide +kernel, by decide +kernel⟩
def spBes (K : PySem.W.Frag) : Sp := fun vs H Q _ => ∃ (b l D : Addr) (c n : Nat) (S : List T3), vs = [.ref b, .int (n : Int), .ref D] ∧ BagAt H b l c ∧ c + 20 ≤ 900000 ∧ 2 ≤ n ∧ n ≤ 60 ∧ H D = some (.dT (S.map ent)) ∧ Dif S ∧
  ∀ H' M xs ms, BagAt H' b l (c + 12) → But b H H' → New H M → H' M = some (.lst xs) → Trs K H' xs ms → ms.Pairwise lt2 → (∀ p ∈ ms, (0 ≤ p.1 ∧ p.1 < p.2.1 ∧ p.2.1 < (n : Int)) ∧ (0 < p.2.2 ∧ p.2.2 ≤ 1000000000) ∧ inS S p.1 p.2.1 = false) → ms.length ≤ 3 → Q (.ref M) H'
section
variable {P : Program} {w : World} {K : PySem.W.Frag} {mg : Str → Option Value} {base : Heap} {C f : Addr} {fd : FuncData}
theorem ok_beside (F : Fun K "_law_beside" "_law_beside" sBes f fd) (B : Bl mg) (o__law_take : Own P w K mg base CX0 1 "_law_take" ["_law_bag_here", "_law_many"] spTake) (o__law_one : Own P w K mg base CX0 2 "_law_one" ["_law_bag_here", "_law_menu"] spOne) : FnOk P w K mg base CX0 3 f fd ["_law_bag_here", "_law_size", "_law_sums_here"] (spBes K) := by
  refine F.ok scBs (fun vs H Q E h => ?_) (fun cdv A outer s H vs Q E hr h => ?_)
  · obtain ⟨b, l, D, c, n, S, rfl, _⟩ := h
    rfl
  · obtain ⟨b, l, D, c, n, S, rfl, B1, hc, hn, hn60, hD, hdif, q⟩ := h
    have hu := hu_of hr
    refine ⟨_, (pss_cons (ps_set (i := 3) scBs.nd rfl (Or.inr rfl) (pe_dnewT))
    (pss_cons (ps_for PassesOwn.never rfl (pi_range1 rfl B.m_range (pa_cons pe_int pa_nil)) (pg_name (i := 4) scBs.nd rfl (Or.inl rfl))
      (pss_cons (ps_set (i := 5) scBs.nd rfl (Or.inl rfl) (pe_own o__law_take (hr.mono (by decide)) pass0 (pa_cons (pv 0) (pa_cons (pv 1) pa_nil))))
      (pss_cons (ps_set (i := 6) scBs.nd rfl (Or.inl rfl) (pe_op op_modN (pe_callTy call_int1 (by rfl) B.m_int (by decide +kernel) (pa_cons (pe_op op_add (pe_op op_add (pv 5) pe_int) (pe_own o__law_take (hr.mono (by decide)) pass0 (pa_cons (pv 0) (pa_cons (pe_op op_sub (pv 1) pe_int) pa_nil)))) pa_nil)) (pv 1)))
      (pss_cons (ps_set (i := 7) scBs.nd rfl (Or.inl rfl) (pe_tup (pa_cons (pe_callB (call_min2 rfl) (by rfl) B.m_min (by decide +kernel) (pa_cons (pv 5) (pa_cons (pv 6) pa_nil))) (pa_cons (pe_callB (call_max2 rfl) (by rfl) B.m_max (by decide +kernel) (pa_cons (pv 5) (pa_cons (pv 6) pa_nil))) pa_nil))))
      (pss_one (ps_if (pt_cmp (pc_dnotin hu (pv 7) (pv 2)))
        (pss_one (ps_dput hu (pv 3) (pv 7) (pe_own o__law_one (hr.mono (by decide)) pass0 (pa_cons (pv 0) (pa_cons (pe_lst (pa_cons pe_int (pa_cons pe_int (pa_cons pe_int pa_nil)))) pa_nil))) rfl))
        pss_nil))))))
    (pss_one (ps_ret (pe_lc (own := [("_law_pair", 7)]) (g := (gName 7)) (tt := tYes) rfl scBs.nd (pi_list (pe_callB (call_sortedTDA (d := 2) (B := 61) (by decide) rfl) (by rfl) B.m_sorted (by decide +kernel) (pa_cons (pv 3) pa_nil))) (blkOk_by (N := ["_law_bag_here", "_law_size", "_law_sums_here", "_law_found", "_law_k", "_law_u", "_law_v", "_law_pair"]) (sc := defScope sBes) (by decide +kernel)) (fun _ _ _ _ _ => pg_name (i := 7) scBs.nd rfl (Or.inl rfl)) (fun _ _ _ _ _ => pts_nil) (fun _ _ _ _ _ => (pe_op op_catW (pv 7) (pe_tup (pa_cons (pe_dget hu (pv 3) (pv 7) (fun _ _ => rfl)) pa_nil))))))))), ?_⟩
    intro D2 nD2
    replace nD2 : New H D2 := nD2
    have s1 : Same H (upd H D2 (.dT [])) := same_upd nD2
    have hF := upd_same (H := H) (a := D2) (o := .dT [])
    have D2b : D2 ≠ b := Ne.symm (ne_new nD2 B1.in'.1.choose_spec)
    have D2l : D2 ≠ l := Ne.symm (ne_new nD2 B1.in'.2.choose_spec)
    have D2D : D2 ≠ D := Ne.symm (ne_new nD2 hD)
    replace B1 := B1.same s1
    replace hD := s1 _ _ hD
    have b1 : But b H (upd H D2 (.dT [])) := But.of s1
    generalize (upd H D2 (.dT [])) = H1 at hF B1 hD b1 ⊢
    have Db : D ≠ b := fun z => by obtain ⟨xb, hxb⟩ := B1.in'.1; rw [z, hxb] at hD; cases hD
    refine ⟨3, rfl, by decide, by decide, ?_⟩
    refine for_it walk_range (fun i σ H8 => (∃ v4 v5 v6 v7, σ = [some (.ref b), some (.int (n : Int)), some (.ref D), some (.ref D2), v4, v5, v6, v7]) ∧ BagAt H8 b l (c + 3 * i) ∧ But b H H8 ∧ H8 D = some (.dT (S.map ent)) ∧ ∃ Fs : List T3, H8 D2 = some (.dT (Fs.map ent)) ∧ Dif Fs ∧ Fs.length ≤ i ∧ ∀ p ∈ Fs, (0 ≤ p.1 ∧ p.1 < p.2.1 ∧ p.2.1 < (n : Int)) ∧ (0 < p.2.2 ∧ p.2.2 ≤ 1000000000) ∧ inS S p.1 p.2.1 = false) ⟨⟨_, _, _, _, rfl⟩, B1, b1, hD, [], hF, .nil, Nat.le_refl _, fun p hp => by cases hp⟩ (fun _ _ _ _ _ => True.intro) ?_ ?_
    · rintro i x σ H8 H9 hi ⟨⟨v4, v5, v6, v7, rfl⟩, B8, b8, hD8, Fs, hF8, hFd, hFl, hFb⟩ ⟨rfl, rfl⟩
      refine ⟨_, rfl, _, rfl, b, l, (n : Int), _, rfl, by omega, by omega, B8, by omega, fun u H5 u0 u1 B5 b5 => ?_⟩
      refine ⟨_, rfl, u, 1, rfl, rfl, _, rfl, _, rfl, (n : Int), 1, rfl, rfl, b, l, (n : Int) - 1, _, rfl, by omega, by omega, B5, by omega, fun st H6 st0 st1 B6 b6 => ⟨u + 1, st, rfl, rfl, .inl ⟨_, rfl, _, rfl, _, _, rfl, rfl, (by omega), ?_⟩⟩⟩
      obtain ⟨v, hvv, v0, v1, uv⟩ : ∃ v : Int, (u + 1 + st).fmod (n : Int) = v ∧ 0 ≤ v ∧ v < n ∧ u ≠ v := by
        refine ⟨_, rfl, ?_⟩
        rw [Int.fmod_eq_emod_of_nonneg _ (by omega)]
        refine ⟨Int.emod_nonneg _ (by omega), Int.emod_lt_of_pos _ (by omega), fun e => ?_⟩
        have h1 := Int.emod_add_mul_ediv (u + 1 + st) (n : Int)
        rw [← e] at h1
        generalize (u + 1 + st) / (n : Int) = qq at h1
        have h2 : (n : Int) * qq = 1 + st := by omega
        have : qq ≤ 0 ∨ 1 ≤ qq := by omega
        rcases this with h | h
        · have := Int.mul_nonpos_of_nonneg_of_nonpos (show (0 : Int) ≤ n by omega) h
          omega
        · have := Int.mul_le_mul_of_nonneg_left h (show (0 : Int) ≤ n by omega)
          omega
      dsimp only
      rw [hvv]
      have nl := norm_lt (p := (u, v, 0)) (n := (n : Int)) ⟨u0, u1, v0, v1, uv⟩
      refine ⟨_, rfl, _, rfl, u, v, rfl, _, rfl, _, rfl, u, v, rfl, (by show 2 ≤ sizeLine; decide), fun R nR => ?_⟩
      replace nR : New H6 R := nR
      have sR := same_new (o := .tup [V.int (norm (u, v, 0)).1, .int (norm (u, v, 0)).2.1]) nR
      have hR : (upd H6 R (.tup [V.int (norm (u, v, 0)).1, .int (norm (u, v, 0)).2.1])) R = some (.tup (([.inl (norm (u, v, 0)).1, .inl (norm (u, v, 0)).2.1] : List Key).map kV)) := upd_same
      show Ends.nx _ _ (upd H6 R (.tup [V.int (norm (u, v, 0)).1, .int (norm (u, v, 0)).2.1]))
      have b56 := (b5.trans b6).trans (But.of sR)
      have hD9 := b56 _ _ Db hD8
      have hF9 := b56 _ _ D2b hF8
      have B9 := B6.same sR
      have b9 := b8.trans b56
      generalize (upd H6 R (.tup [V.int (norm (u, v, 0)).1, .int (norm (u, v, 0)).2.1])) = H7 at sR hR hD9 hF9 B9 b9 ⊢
      generalize (norm (u, v, 0)).1 = p1 at nl hR
      generalize (norm (u, v, 0)).2.1 = p2 at nl hR
      refine ⟨_, rfl, _, rfl, D, _, rfl, DGet.t hD9 hR, _, rfl, ?_⟩
      rw [valV_inS hdif]
      cases ei : inS S p1 p2 with
      | true => exact ⟨⟨_, _, _, _, rfl⟩, B9.mono (by omega), b9, hD9, Fs, hF9, hFd, by omega, hFb⟩
      | false =>
        refine ⟨_, rfl, (by show 3 ≤ sizeLine; decide), fun M nM => ?_⟩
        replace nM : New H7 M := nM
        have sM := same_new (o := .lst [V.int 1, .int 5, .int 1000000000]) nM
        have hM := upd_same (H := H7) (a := M) (o := .lst [V.int 1, .int 5, .int 1000000000])
        have Mb : M ≠ b := Ne.symm (ne_new nM B9.in'.1.choose_spec)
        refine ⟨b, l, M, _, _, rfl, B9.same sM, by omega, Mb, hM, by show 1 ≤ 3; decide, by show 3 ≤ 100; decide, fun Ha k x Ba ba hx => ?_⟩
        obtain ⟨z, rfl, z0, z1⟩ : ∃ z : Int, x = .int z ∧ 0 < z ∧ z ≤ 1000000000 := by
          have hk : k < 3 := (List.getElem?_eq_some_iff.mp hx).1
          match k, hk with
          | 0, _ => cases hx; exact ⟨1, rfl, by decide, by decide⟩
          | 1, _ => cases hx; exact ⟨5, rfl, by decide, by decide⟩
          | 2, _ => cases hx; exact ⟨1000000000, rfl, by decide, by decide⟩
        have bMa := (But.of sM).trans ba
        have hRb : R ≠ b := fun e => by obtain ⟨xb, hxb⟩ := B9.in'.1; rw [e, hxb] at hR; cases hR
        have hRa := bMa _ _ hRb hR
        have hFa := bMa _ _ D2b hF9
        have hDa := bMa _ _ Db hD9
        refine ⟨_, rfl, _, rfl, D2, _, rfl, DPut.t hFa hRa (by rw [List.length_map, sizeLine_eq]; omega), ⟨_, _, _, _, rfl⟩, ?_⟩
        rw [put_ent]
        refine ⟨(Ba.put D2b D2l).mono (by omega), fun c' o hc' ho => ?_, by rw [upd_ne (Ne.symm D2D)]; exact hDa, _, upd_same, setS_dif hFd, by have := setS_length (S := Fs) (u := p1) (v := p2) (c := z); omega, fun p hp => ?_⟩
        · rw [upd_ne (fun e => by rw [e, nD2] at ho; cases ho)]
          exact bMa _ _ hc' (b9 _ _ hc' ho)
        · rcases setS_mem hp with hp | rfl
          · exact hFb p hp
          · exact ⟨nl, ⟨z0, z1⟩, ei⟩
    · rintro σ H8 ⟨⟨v4, v5, v6, v7, rfl⟩, B8, b8, hD8, Fs, hF8, hFd, hFl, hFb⟩
      have hB := bdK_of hn60 fun p hp => (hFb p hp).1
      have hFl3 : Fs.length ≤ 3 := hFl
      refine ⟨_, rfl, D2, _, _, rfl, hF8, sd1, by rw [List.length_map, sizeLine_eq]; omega, fun m hm => ?_, fun ys p hperm hord hys np => ?_⟩
      · obtain ⟨r, hr', rfl⟩ := List.mem_map.mp hm
        exact ⟨rfl, hB r hr'⟩
      obtain ⟨Z, hZp, hZk, hZo⟩ := sorted_back hB hperm hord
      have hZ2 := lt2_of (hFd.perm hZp) hZo
      replace np : New H8 p := np
      have sp := same_new (o := .lst (ys.map fun y => V.ref y.1)) np
      have hp := upd_same (H := H8) (a := p) (o := .lst (ys.map fun y => V.ref y.1))
      have hy5 : ∀ y ∈ ys, (upd H8 p (.lst (ys.map fun y => V.ref y.1))) y.1 = some (.tup (y.2.map V.int)) := fun y hy => sp _ _ (hys y hy)
      replace hF8 := sp _ _ hF8
      replace B8 := B8.same sp
      replace b8 := b8.trans (But.of sp)
      generalize (upd H8 p (.lst (ys.map fun y => V.ref y.1))) = H5 at hp hy5 hF8 B8 b8 ⊢
      clear sp np hys hperm hord
      have hyl : ys.length = Z.length := by have := congrArg List.length hZk; rw [List.length_map, List.length_map] at this; exact this.symm
      have hZl : Z.length ≤ 3 := by rw [hZp.length_eq]; exact hFl3
      refine ⟨p, rfl, ⟨_, .inl (.inl hp)⟩, fun M nM => ?_⟩
      replace nM : New H5 M := nM
      have nMH : New H M := by
        show H M = none
        cases e : H M with
        | none => rfl
        | some o =>
          have := b8 M o (Ne.symm (ne_new nM B8.in'.1.choose_spec) |> fun h => h) e
          rw [nM] at this
          cases this
      refine lc_list (K := K) (a := p) (xs := ys.map fun y => V.ref y.1) (fun j H6 => Same H5 H6 ∧ ∃ zs, H6 M = some (.lst zs) ∧ Trs K H6 zs (Z.take j)) ⟨same_new nM, [], upd_same, True.intro⟩ (fun j H6 _ h => .inl (.inl (h.1 _ _ hp))) ?_ ?_
      · rintro j x H6 hx ⟨m1, zs, m2, m3⟩
        rw [List.getElem?_map] at hx
        obtain ⟨y, hy, rfl⟩ := Option.map_eq_some_iff.mp hx
        obtain ⟨r, hr', hky⟩ := ex_one hZk hy
        have hrS : r ∈ Fs := hZp.mem_iff.mp (List.mem_of_getElem? hr')
        have hyt := m1 _ _ (hy5 y (List.mem_of_getElem? hy))
        rw [hky] at hyt
        have e2 := DGet.t (k := [.inl r.1, .inl r.2.1]) (m1 _ _ hF8) hyt
        rw [valV_mem hFd hrS] at e2
        refine ⟨rfl, _, rfl, _, rfl, _, rfl, D2, _, rfl, e2, (by show 1 ≤ sizeLine; decide), fun U nU => ?_⟩
        replace nU : New H6 U := nU
        have sU := same_new (o := .tup [V.int r.2.2]) nU
        refine ⟨y.1, U, _, _, rfl, rfl, sU _ _ hyt, upd_same, (by show 3 ≤ sizeLine; decide), fun H7 R s7 hR => ?_⟩
        have s67 := sU.trans s7
        have m2' := s67 _ _ m2
        have hzl := m3.length
        rw [List.length_take] at hzl
        refine ⟨zs, m2', by rw [sizeLine_eq]; omega, over nM (m1.trans s67), zs ++ [.ref R], upd_same, ?_⟩
        rw [List.take_add_one, hr']
        exact Trs.append (Trs.but m2' (But.upd _ _ _) (m3.same s67)) ⟨⟨R, rfl, SqT.but m2' (.inl (.inl hR)) (But.upd _ _ _)⟩, True.intro⟩
      rintro H6 ⟨m1, zs, m2, m3⟩
      rw [List.length_map, hyl, List.take_length] at m3
      exact q H6 M zs Z ((B8.same m1).mono (by omega)) (b8.trans (But.of m1)) nMH m2 m3 hZ2 (fun p hp => hFb p (hZp.mem_iff.mp hp)) hZl
end
end T77
/-! try with several clauses 'except x as n' (exceptions whose context is None). -/
namespace L2N
open PySem PySem.Spec PyProof.Rows L2 PXN
/-- what the clauses wish of an exception of the body, one after the other -/
def wManyA (K : PySem.W.Frag) (Wout : WX) (D : Ends) : List (Value × Nat × (Addr → Value → Option Addr → TS)) → WX
  | [] => Wout
  | (c, i, ts) :: r => fun cls d σ H => ∃ b, PySem.W.exmOne K cls c = some b ∧ (b = true → ∀ a, H a = none → ts a cls d { nx := fun σ' H' => D.nx (σ'.set i none) H', rt := D.rt, bk := fun σ' H' => D.bk (σ'.set i none) H', ct := fun σ' H' => D.ct (σ'.set i none) H' } (σ.set i (some (.ref a))) H) ∧
    (b = false → wManyA K Wout D r cls d σ H)
inductive HdsA (X : Cx) : List ExceptHandler → List (Value × Nat × (Addr → Value → Option Addr → TS)) → Prop
  | nil : HdsA X [] []
  | cons {x n : Str} {c : Value} {i : Nat} {ts : Addr → Value → Option Addr → TS} {b₀ : Stmt} {suite : List Stmt} {np pos' : Pos} {hds : List ExceptHandler} {l : List (Value × Nat × (Addr → Value → Option Addr → TS))} (hi : X.N[i]? = some n) (hln : X.env.kindOf n = some .local) (hc : Names X x c)
      (hsu : ∀ (a : Addr) (oe : Obj) (cls : Value) (d : Option Addr) (pn : List (Addr × Obj)), Zn cls d oe → (∃ vs, oe.data = .fields vs) → PSs (X.suite a ((a, oe) :: pn)) (b₀ :: suite) (ts a cls d)) (r : HdsA X hds l) :
      HdsA X (.ExceptHandler (some (.Name x np)) (some n) (b₀ :: suite) pos' :: hds) ((c, i, ts) :: l)
section
variable {X : Cx} {body : List Stmt} {h₀ : ExceptHandler} {hds : List ExceptHandler} {l : List (Value × Nat × (Addr → Value → Option Addr → TS))} {pos : Pos} {tb : WX → TS} {Wout : WX}
theorem ps_try_manyA (hs : X.stack = X.env :: X.outer) (hf : X.env.frame = some X.env.locals) (hN : X.N.Nodup) (tk : Takes X Wout)
    (hb : ∀ (W : WX) (pn : List (Addr × Obj)) (xe : Value → Shared → Prop), Takes (X.tr pn xe) W → PassesOwn (model X.prog X.w) X.A X.env xe → PSs (X.tr pn xe) body (tb W))
    (hh : HdsA X (h₀ :: hds) l) : PS X (.Try body (h₀ :: hds) [] [] pos) (fun D σ H => tb (wManyA X.K Wout D l) D σ H) := by
  refine ⟨fun pins s σ H D I h => ?_⟩
  have ok := I.ok
  have hfr : X.A.frames = some (X.env :: X.outer) := by rw [ok.frames, hs]
  refine wpAny_Try_except ?_
  refine wpAny_mono ((hb (wManyA X.K Wout D l) (X.pn ++ pins) (fun e s₁ => wpAny (model X.prog X.w) X.A (noteFrame e X.env) (fun _ s₂ => wpAny (model X.prog X.w) X.A (setFlight e none) (fun _ s₃ =>
    wpAny (model X.prog X.w) X.A (handleBy e X.env (h₀ :: hds)) (SP X pins D) X.xe s₃) X.xe s₂) X.xe s₁) (fun u s' xx => ?_) PassesOwn.looking).run [] s σ H D (I.toTry _) h) (fun f s1 hsp => ?_) (fun e s1 he => he)
  · -- the catch
    obtain ⟨a, B, sI, pins', σ', H', cls, d, rfl, J', nb, up, sky, na, os, ag, w⟩ := xx
    have J : Inv X pins σ' H' sI := J'.ofTry ok
    have sky' : Sky B (X.env :: X.outer) a (Zn cls d) X.env.locals s'.heap := by rw [← hs]; exact sky
    show wpAny (model X.prog X.w) X.A (noteFrame (.ref a) X.env) _ _ _
    refine Sky.land Zn.steady hfr hf sky' fun h3 fl3 up3 => ?_
    have J3 : Inv X pins σ' H' { s' with heap := h3 } := J.landed nb fl3.1 (up.trans up3) os ag
    obtain ⟨oe3, vs3, he3, hz3, hd3⟩ := fl3.there
    have notFr : ∀ {h : Heap} {o : Obj} {vs : Array Value}, h.FunFrames B (X.env :: X.outer) → h.get? a = some o → o.data = .fields vs → a ∉ frs (X.env :: X.outer) := fun {h o vs} ff e dd hm => by
      obtain ⟨_, o', e', hnf⟩ := ff.mem hm
      rw [e] at e'; cases e'
      exact hnf _ dd
    have nfr := notFr fl3.2.2.1 he3 hd3
    have nL : a ≠ X.env.locals := fun z => nfr (List.mem_filterMap.mpr ⟨X.env, List.mem_cons_self, by rw [hf, z]⟩)
    have nF : a ∉ X.fs := fun hm => by
      obtain ⟨e, he, q⟩ := List.mem_filterMap.mp hm
      exact nfr (List.mem_filterMap.mpr ⟨e, List.mem_cons_of_mem _ he, q⟩)
    have S3 := J3.suite he3 hd3 na nL nF
    have go : ∀ {hds' : List ExceptHandler} {l' : List (Value × Nat × (Addr → Value → Option Addr → TS))}, HdsA X hds' l' → wManyA X.K Wout D l' cls d σ' H' →
        wpAny (model X.prog X.w) X.A (handleBy (.ref a) X.env hds') (SP X pins D) X.xe { s' with heap := h3 } := by
      intro hds' l' hk
      induction hk with
      | nil =>
        intro w
        refine wpAny_handleBy_nil ?_
        obtain ⟨k1, k2, k3, oe, vs, T, oT, ts', he, hz, hd, h1, hr⟩ := id fl3
        unfold PySem.passOn
        refine wpAny_bind (wpAny_field he hd h1 ?_)
        rw [if_neg (show ¬ ((Value.ref T == Value.none) = true) from by simp)]
        have fin : wpAny (model X.prog X.w) X.A (setFlight (.ref a) X.env.frame) (fun _ s4 => wpAny (model X.prog X.w) X.A (throw (.ref a) : Sem Flow) (SP X pins D) X.xe s4) X.xe { s' with heap := h3 } := by
          rw [hf]
          refine HandSPX.setFlight_upZ fl3 fun h4 hh4 up4 => wpAny_throw (tk _ _ ?_)
          exact ⟨a, B, sI, pins, σ', H', cls, d, rfl, J, nb, (up.trans up3).trans up4, .inr (.inr (by rw [hs]; exact hh4)), na, os, ag, w⟩
        first
          | exact wpAny_bind (wpAny_pure (wpAny_bind fin))
          | exact wpAny_bind fin
      | @cons x n c i ts b₀ suite np pos' hds2 l2 hi hln hc hsu r ih =>
        intro w
        obtain ⟨b, hb1, hyes, hno⟩ := w
        have hloc : Loc X.env.scope n := .inl hln
        refine wpAny_handleBy_cons (codeAny_handlers_test ?_) (by intro q; cases q)
        have LT : PySem.W.Looks (model X.prog X.w) h3 (typeOf (.ref a)) cls := fun A Q E s k q => wpAny_typeOf_ref (k _ _ he3) (by rw [hz3.1]; exact q)
        have LM := PySem.W.exm_one (M := model X.prog X.w) (J3.kIn) LT hb1
        have test : ∀ {Q : Value → Shared → Prop} {E : Value → Shared → Prop}, Q c { s' with heap := h3 } → wpAny (model X.prog X.w) (X.A.mark (some (.ref a))) (eval (.Name x np) X.env) Q E { s' with heap := h3 } := fun {Q E} q => by
          obtain ⟨hg, hdbg, hm | ⟨hm, hv, hnn⟩⟩ := hc
          · exact ld_glob (X := X.suite a ((a, oe3) :: (X.pn ++ pins))) S3 hg hm q hdbg
          · exact ld_blt (X := X.suite a ((a, oe3) :: (X.pn ++ pins))) S3 hg hm hv q hnn hdbg
        refine test (LM.here ?_)
        cases b with
        | true =>
          refine codeAny_handlers_suite_as ?_
          refine HandSPX.lands_againZ fl3 fun h4 fl4 up4 => ?_
          have J4 : Inv X pins σ' H' { s' with heap := h4 } := J.landed nb fl4.1 ((up.trans up3).trans up4) os ag
          obtain ⟨oe4, vs4, he4, hz4, hd4⟩ := fl4.there
          have S4 := J4.suite he4 hd4 na nL nF
          refine store_ok (X := X.suite a ((a, oe4) :: (X.pn ++ pins))) (v := .ref a) S4 hN hi hloc rfl (fun s5 S5 => ?_) (.inr hln)
          refine wpAny_mono ((hsu a oe4 cls d (X.pn ++ pins) hz4 ⟨_, hd4⟩).run [] s5 _ H' _ S5 (hyes rfl a na)) (fun f s6 hsp => ?_) (fun _ _ z => False.elim z)
          have end_ : ∀ {σ6 : St} {H6 : Hp} {Q : Shared → Prop}, Inv (X.suite a ((a, oe4) :: (X.pn ++ pins))) [] σ6 H6 s6 → (∀ s7, Inv X pins (σ6.set i none) H6 s7 → Q s7) →
              wpAny (model X.prog X.w) X.A (do bindName X.env n .none; unbindBehindTheSuite X.env n pos') (fun _ s7 => Q s7) X.xe s6 := fun {σ6 H6 Q} S6 hq => gone_ok (S6.unsuite ok) hN hi hln hq
          cases f with
          | next =>
            obtain ⟨σ6, H6, S6, q6⟩ := hsp
            exact end_ S6 fun s7 J7 => ⟨_, _, J7, q6⟩
          | brk =>
            obtain ⟨σ6, H6, S6, q6⟩ := hsp
            exact end_ S6 fun s7 J7 => ⟨_, _, J7, q6⟩
          | cont =>
            obtain ⟨σ6, H6, S6, q6⟩ := hsp
            exact end_ S6 fun s7 J7 => ⟨_, _, J7, q6⟩
          | ret u =>
            obtain ⟨v6, σ6, H6, S6, r6, q6⟩ := hsp
            exact end_ S6 fun s7 J7 => ⟨_, _, _, J7, r6, q6⟩
        | false =>
          show wpAny _ X.A (handleBy (.ref a) X.env hds2) _ _ _
          exact ih (hno rfl)
    exact go hh w
  · cases f with
    | next =>
      obtain ⟨σ', H', J', q⟩ := hsp
      exact wpAny_execs_nil ⟨σ', H', J'.ofTry ok, q⟩
    | brk =>
      obtain ⟨σ', H', J', q⟩ := hsp
      exact ⟨σ', H', J'.ofTry ok, q⟩
    | cont =>
      obtain ⟨σ', H', J', q⟩ := hsp
      exact ⟨σ', H', J'.ofTry ok, q⟩
    | ret u =>
      obtain ⟨v, σ', H', J', r, q⟩ := hsp
      exact ⟨v, σ', H', J'.ofTry ok, r, q⟩
end
end L2N
/-! repr of a tuple of data. -/
namespace Wk
open PySem PySem.Spec PyProof.Rows L2
/-- repr(t), t a tuple of such data -/
def rReprT (K : PySem.W.Frag) : List V → Hp → VK → Prop := fun xs H Q => ∃ (a : Addr) (vs : List V) (ds : List PyData), xs = [.ref a] ∧ SqT K H a vs ∧ RqAll K H vs ds ∧ PyData.showableAll ds = true ∧ PyData.depthAll ds ≤ 40 ∧
  (tupleText (PyData.shownAll ds)).length ≤ sizeLine ∧ Q (.str (tupleText (PyData.shownAll ds))) H
theorem call_reprT {X : Cx} {K : PySem.W.Frag} (hK : X.K = K) (hg : Gd X.A) (hu : X.A.units + 64 < cLine) : CallR X (.builtin "repr") (rReprT K) := by
  subst hK
  intro pins s σ H xs us Q I r h
  obtain ⟨a, vs, ds, rfl, ha, hall, hs, hd, hz, q⟩ := h
  obtain ⟨u, rfl, e⟩ := vals1 r
  cases (show u = Value.ref a from e)
  obtain ⟨its, rv, ⟨o, e1, e2, n, e3⟩, _⟩ := I.tuple ha
  obtain ⟨⟨as, ra⟩, bs, hb, hk⟩ := RqAll.k I ds vs its hall rv hs (fun t ht => Nat.le_trans (tupleText_mem_le ht) hz)
  have hr : Reads s.heap (.ref a) (.tuple ds) as := Reads.tuple (vs := its.toArray) e1 e2 e3 (by simpa using ra)
  have hna : a ∉ bs := not_mem_of_deeper hr (by simp only [PyData.depth]; omega) hb
  refine call_repr_slot (by omega) ⟨_, e1, e2⟩ F.slot_tuple_repr ?_
  refine call_tuple_reprK e1 e2 e3 hna (by simpa using hk) hg (fun b _ => Clear.nil b) (by show X.A.units + 1 + _ < _; omega) (fun _ _ z => z) (fun h' u tk kp => ?_) hz
  exact ⟨_, _, rfl, .str _, H, I.kept (t' := tk) kp, ⟨_, rfl⟩, q⟩
end Wk
/-! Texts whose signs are code points. -/
namespace Wk
open PySem PySem.Spec PyProof.Rows L2
theorem char_lt (c : Char) : c.toNat < 1114112 := by
  have h := c.valid
  have e : c.toNat = c.val.toNat := rfl
  have : c.val.isValidChar := h
  rcases (this : c.val.toNat.isValidChar) with h | h
  · omega
  · omega
theorem ok_of (s : String) : PyData.strOk (Str.ofString s) = true := by
  rw [Str.ofString_eq_toList]
  unfold PyData.strOk
  rw [Array.all_eq_true_iff_forall_mem]
  intro x hx
  have hx : x ∈ s.toList.map Char.toNat := by simpa using hx
  obtain ⟨c, _, rfl⟩ := List.mem_map.mp hx
  have := char_lt c
  exact decide_eq_true this
theorem ok_app {a b : Str} (h : PyData.strOk a = true) (g : PyData.strOk b = true) : PyData.strOk (a ++ b) = true := by
  unfold PyData.strOk at *
  show (a.cps ++ b.cps).all _ = true
  rw [Array.all_append, h, g]; rfl
theorem dpS {K : PySem.W.Frag} {H : Hp} : ∀ ts : List Str, DpAll K H (ts.map V.str) (ts.map .str)
  | [] => .nil
  | t :: ts => .cons (.str t) (dpS ts)
theorem depthS : ∀ ts : List Str, PyData.depthAll (ts.map PyData.str) ≤ 1
  | [] => by simp [PyData.depthAll]
  | t :: ts => by
    have ih := depthS ts
    rw [List.map_cons, PyData.depthAll]; simp [PyData.depth]; omega
theorem shapedLS {ts : List Str} (h : ts.all PyData.strOk = true) : SeqAt.shaped (.list (ts.map PyData.str)) = true := by
  have e := (canLayAll_strs' ts).trans h
  have := depthS ts
  unfold SeqAt.shaped
  rw [PyData.canLay0, PyData.depth, e]
  simp
  omega
end Wk
/-! repr of None or of a tuple of data. -/
namespace Wk
open PySem PySem.Spec PyProof.Rows L2 HT
theorem call_reprNn {X : Cx} : CallR X (.builtin "repr") (fun xs H Q => xs = [.non] ∧ Q (.str "None") H) := by
  intro pins s σ H xs us Q I r h
  obtain ⟨rfl, q⟩ := h
  obtain ⟨u, rfl, e⟩ := vals1 r
  cases (show u = Value.none from e)
  exact PySem.P.repr_of_none ⟨.str _, H, I.tok _, ⟨_, rfl⟩, q⟩
/-- repr(v) is t -/
def ReadsT (K : PySem.W.Frag) (H : Hp) (v : V) (t : Str) : Prop := (v = .non ∧ t = "None") ∨ ∃ (a : Addr) (vs : List V) (ds : List PyData), v = .ref a ∧ SqT K H a vs ∧ RqAll K H vs ds ∧ PyData.showableAll ds = true ∧ PyData.depthAll ds ≤ 40 ∧ (tupleText (PyData.shownAll ds)).length ≤ sizeLine ∧ t = tupleText (PyData.shownAll ds)
def rReprO (K : PySem.W.Frag) : List V → Hp → VK → Prop := fun xs H Q => ∃ v t, xs = [v] ∧ ReadsT K H v t ∧ Q (.str t) H
theorem call_reprO {X : Cx} {K : PySem.W.Frag} (hK : X.K = K) (hg : Gd X.A) (hu : X.A.units + 64 < cLine) : CallR X (.builtin "repr") (rReprO K) := by
  intro pins s σ H xs us Q I r h
  obtain ⟨v, t, rfl, h, q⟩ := h
  rcases h with ⟨rfl, rfl⟩ | ⟨a, vs, ds, rfl, h1, h2, h3, h4, h5, rfl⟩
  · exact call_reprNn pins s σ H _ us Q I r ⟨rfl, q⟩
  · exact call_reprT hK hg hu pins s σ H _ us Q I r ⟨a, vs, ds, rfl, h1, h2, h3, h4, h5, q⟩
end Wk
/-! x in a tuple of data. -/
namespace Wk
open PySem PySem.Spec PyProof.Rows L2
theorem units65 {k : Nat} {A : Around} (r : Room k A) : A.units + 65 < cLine := by have := r.un; omega
def rInT (K : PySem.W.Frag) : R2 := fun x y H Q => ∃ d ds, Dp K H x d ∧ Dp K H y (.tuple ds) ∧ SeqAt.shaped d = true ∧ SeqAt.shaped (.tuple ds) = true ∧ Q (.bl (ds.any fun z => PyData.eqv z d)) H
theorem op_inT {X : Cx} {K : PySem.W.Frag} (hK : X.K = K) (hu : X.A.units + 65 < cLine) : OpR X (compareOp .In) (rInT K) := by
  subst hK
  intro pins s σ H x y v u Q I rx ry h
  obtain ⟨d, ds, hd, he, sd, se, q⟩ := h
  obtain ⟨as, r1⟩ := Dp.reads I d x v hd rx
  obtain ⟨bs, r2⟩ := Dp.reads I (.tuple ds) y u he ry
  exact SeqAt.in_tuple_reads r2 r1 (SeqAt.canLay_of_shaped se) (SeqAt.canLay_of_shaped sd) (room_in_shaped sd hu) ⟨.bl _, H, I, rfl, q⟩
/-- repr(v), v such data of any kind -/
def rReprX (K : PySem.W.Frag) : List V → Hp → VK → Prop := fun xs H Q => ∃ (v : V) (d : PyData), xs = [v] ∧ Rq K H v d ∧ d.showable = true ∧ d.depth ≤ 40 ∧ d.shown.length ≤ sizeLine ∧ (d.hasDict = true → d = .dict []) ∧ Q (.str d.shown) H
theorem call_reprX {X : Cx} {K : PySem.W.Frag} (hK : X.K = K) (hg : Gd X.A) (hu : X.A.units + 64 < cLine) : CallR X (.builtin "repr") (rReprX K) := by
  subst hK
  intro pins s σ H xs us Q I r h
  obtain ⟨v, d, rfl, hq, hs, hd, hz, hdi, q⟩ := h
  obtain ⟨u, rfl, e⟩ := vals1 r
  cases hq with
  | non =>
    cases (show u = Value.none from e)
    simp only [PyData.shown] at q
    exact PySem.P.repr_of_none ⟨.str _, H, I.tok _, ⟨_, rfl⟩, q⟩
  | bl y =>
    cases (show u = Value.bool y from e)
    simp only [PyData.shown] at q
    exact PySem.P.repr_of_bool ⟨.str _, H, I.tok _, ⟨_, rfl⟩, q⟩
  | int i =>
    obtain ⟨t, rfl⟩ := (show ∃ t, u = Value.int i t from e)
    simp only [PyData.shown] at q
    simp only [PyData.showable] at hs
    exact PySem.P.repr_of_int (of_decide_eq_true hs) ⟨.str _, H, I.tok _, ⟨_, rfl⟩, q⟩
  | str x =>
    obtain ⟨t, rfl⟩ := (show ∃ t, u = Value.str x t from e)
    simp only [PyData.shown] at q hz
    exact PySem.P.repr_of_str ⟨.str _, H, I.tok _, ⟨_, rfl⟩, q⟩ hz
  | @lst a vs ds ha hall =>
    cases (show u = Value.ref a from e)
    obtain ⟨⟨as, ra⟩, _⟩ := Rq.k I (.list ds) (.ref a) _ (.lst ha hall) e hs hz
    exact PySem.repr_of_reads' ra hs (fun hh => by have := hdi hh; cases this) hg (by omega) (fun _ _ z => z) (fun h' u tk kp => ⟨.str _, H, I.kept (t' := tk) kp, ⟨_, rfl⟩, q⟩) hz
  | @tup a vs ds ha hall =>
    cases (show u = Value.ref a from e)
    obtain ⟨⟨as, ra⟩, _⟩ := Rq.k I (.tuple ds) (.ref a) _ (.tup ha hall) e hs hz
    exact PySem.repr_of_reads' ra hs (fun hh => by have := hdi hh; cases this) hg (by omega) (fun _ _ z => z) (fun h' u tk kp => ⟨.str _, H, I.kept (t' := tk) kp, ⟨_, rfl⟩, q⟩) hz
  | @emp a ha =>
    cases (show u = Value.ref a from e)
    obtain ⟨_, hsys, xs, hp, o, es, ep, e1, ed, od, hes, _⟩ := (show ObjOk X.prog X.w H s.heap a (.dT []) from I.hok a _ ha)
    cases hp
    have hes : es.toList = [] := hes
    have hr : Reads s.heap (.ref a) (.dict []) ([a] ++ []) := Reads.dict e1 ed.1 od (by rw [hes]; exact ReadsAll.nil) (by rw [hes]; exact ReadsAll.nil)
    refine PySem.repr_of_reads' hr hs (fun _ hm => ?_) hg (by omega) (fun _ _ z => z) (fun h' u tk kp => ⟨.str _, H, I.kept (t' := tk) kp, ⟨_, rfl⟩, q⟩) hz
    have : sysModules = a := by simpa using hm
    rw [this] at hsys
    simp at hsys
end Wk
/-! What the law is told. -/
namespace T77
open PySem PySem.Spec PyProof.Rows L2 L2H Wk Vb StX RZ HT
abbrev sTold : Stmt := top 36
theorem scTo : FnScope ["_law_web", "_law_walk_here", "_law_sign", "_law_found", "e"] ["_law_web", "_law_walk_here", "_law_sign"] (defScope sTold) := ⟨rfl, rfl, rfl, by decide +kernel, rfl, by decide +kernel, by decide +kernel⟩
/-- the text of a pair -/
def txt2 (u v : Int) : Str := tupleText (PyData.shownAll [.int u, .int v])
structure DnW (K : PySem.W.Frag) (mg : Str → Option Value) (cT cF : Addr) : Prop where
  gT : mg "TooMany" = some (.ref cT)
  gF : mg "TooFew" = some (.ref cF)
  xT : XfC K cT
  xF : XfC K cF
  ff : PySem.W.exmOne K (.ref cF) (.ref cF) = some true
  tf : PySem.W.exmOne K (.ref cT) (.ref cF) = some false
  tt : PySem.W.exmOne K (.ref cT) (.ref cT) = some true
  nT : PySem.W.findIn K (.ref cT) "limit" = some none
  nF : PySem.W.findIn K (.ref cF) "pair" = some none
def spTold (K : PySem.W.Frag) : Addr → Sp := fun C vs H Q _ => ∃ (w W : Addr) (n : Nat) (am : Int → Int → Int) (T Z : List T3) (ws : List Int) (s : Int), vs = [.ref w, .ref W, .int s] ∧ WA K C H w n am T ∧ T.length ≤ 1900 ∧ SqL K H W (ws.map V.int) ∧ Walk n ws ∧ (s = 1 ∨ s = -1) ∧
  Z.Perm (sumP (pas s ws)) ∧ Z.Pairwise lt2 ∧
  (∀ p, (Z.filter (lowB am)).head? = some p → ∀ H' R, Same H H' → H' R = some (.tup [.str "TooFew", .str (txt2 p.1 p.2.1)]) → Q (.ref R) H') ∧
  (Z.filter (lowB am) = [] → (∃ p ∈ Z, highB am p = true) → ∀ H' R, Same H H' → H' R = some (.tup [.str "TooMany", .str "1000000000"]) → Q (.ref R) H') ∧
  (Z.filter (lowB am) = [] → (∀ p ∈ Z, highB am p = false) → ∀ H' R R2 t ys T', Same H H' → H' R = some (.tup [.str "told", .ref R2]) → H' R2 = some (.tup [.int (n : Int), .ref t]) → H' t = some (.tup ys) → Trs K H' ys T' → TiesOf (n : Int) (fun u v => am u v + amt (sumP (pas s ws)) u v) T' → Q (.ref R) H')
theorem pe_xfPK {X : Cx} {K : PySem.W.Frag} {a : Addr} {oe : Obj} {cls : Value} {d : Option Addr} {e : Expr} {te : TE} {pos : Pos} {n : Str} (hK : X.K = K) (hp : (a, oe) ∈ X.pn) (hz : Zc cls d oe) (hf : ∃ ws, oe.data = .fields ws) (he : PE X e te)
    (hb : attributeBase e n X.env (eval e X.env) = eval e X.env := by rfl) : PE X (.Attribute e n pos) (tXfP K a cls d n te) := by
  subst hK
  exact pe_xfP hp hz hf he hb
section
variable {P : Program} {w : World} {K : PySem.W.Frag} {mg : Str → Option Value} {base : Heap} {C f : Addr} {fd : FuncData}
theorem ok_told {cT cF fn : Addr} {dn : FuncData} (F : Fun K "_law_told" "_law_told" sTold f fd) (B : Bl mg) (T : TxtW K mg C) (GK : KindW K mg C) (D : DnW K mg cT cF)
    (G : FnOk P w K mg base (L2N.CX P w) 10 fn dn ["web", "walk", "sign"] (spTurned K C cT cF)) (mb : mg "turned" = some (.ref fn)) (kb : PySem.W.keepIn K (.ref fn) = true) (bb : Binds K dn ["web", "walk", "sign"] []) :
    FnC P w K mg base CX0 11 f fd ["_law_web", "_law_walk_here", "_law_sign"] (spTold K C) := by
  refine okC F scTo (fun vs H Q E h => ?_) (fun cdv A outer s H vs Q E hr hgd h => ?_)
  · obtain ⟨w, W, n, am, T, Z, ws, s, rfl, _⟩ := h
    rfl
  · obtain ⟨w1, W, n, am, TT, Z, ws, sg, rfl, V1, hTl, hW, hwk, hs, hZp, hZo, q1, q2, q3⟩ := h
    have hu := hu_of hr
    refine ⟨_, pss_cons (L2N.ps_try_manyA (Wout := fun _ _ _ _ => False) rfl rfl scTo.nd takes0N
      (fun WW pn xe tk _ => pss_one (ps_set (i := 3) scTo.nd rfl (Or.inl rfl) (by exact (pe_callS G hr rfl mb kb bb (fun σ => L2N.passAt tk σ) (by exact (pa_cons (pv 0) (pa_cons (pv 1) (pa_cons (pv 2) pa_nil))))))))
      (.cons (i := 4) rfl rfl ⟨rfl, by decide, Or.inl D.gF⟩ (fun a oe cls d pn hz hf => pss_one (ps_ret (by exact (pe_tup (pa_cons pe_str (pa_cons (pe_callB (r := rReprT K) (call_reprT rfl hgd (by have := hr.units; exact this)) (by rfl) B.m_repr (by decide +kernel) (pa_cons (pe_xfPK (K := K) rfl List.mem_cons_self (L2N.Zn.zc hz) hf (pv 4)) pa_nil)) pa_nil))))))
      (.cons (i := 4) rfl rfl ⟨rfl, by decide, Or.inl D.gT⟩ (fun a oe cls d pn hz hf => pss_one (ps_ret (by exact (pe_tup (pa_cons pe_str (pa_cons (pe_callB (r := rReprX K) (call_reprX rfl hgd (by have := hr.units; exact this)) (by rfl) B.m_repr (by decide +kernel) (pa_cons (pe_xfPK (K := K) rfl List.mem_cons_self (L2N.Zn.zc hz) hf (pv 4)) pa_nil)) pa_nil)))))) .nil)))
      (pss_one (ps_ret (pe_tup (pa_cons pe_str (pa_cons (pe_and (pe_callB call_isi (by rfl) B.m_isinstance (by decide +kernel) (pa_cons (pv 3) (pa_cons (pe_glob (v := .ref C) rfl GK.gW rfl) pa_nil))) (pe_one (pe_tup (pa_cons (pe_fld (pv 3) rfl) (pa_cons (pe_fld (pv 3) rfl) pa_nil))))) pa_nil))))), ?_⟩
    refine ⟨_, rfl, _, rfl, _, rfl, w1, W, n, am, TT, Z, ws, sg, rfl, V1, hTl, hW, hwk, hs, hZp, hZo, fun p hp H' R d sH hR nd => ?_, fun hno hex H' d sH nd => ?_, fun hno hno2 H' x T' sH VX => ?_⟩
    · have hpZ : p ∈ Z := by
        have := List.mem_of_mem_head? hp
        exact (List.mem_filter.mp this).1
      have sW : SumW n (sumP (pas sg ws)) := by
        have := sumW_of hwk hs (k := (pas sg ws).length)
        rwa [List.take_length] at this
      have hb := sW.bd p (hZp.mem_iff.mp hpZ)
      have hn60 := V1.n60
      obtain ⟨io1, io2, io3⟩ := ints_ok (l := [p.1, p.2.1]) (by
        intro i hi
        simp only [List.mem_cons, List.not_mem_nil, or_false] at hi
        rcases hi with rfl | rfl
        · exact small_of (by omega) (by omega)
        · exact small_of (by omega) (by omega))
      refine ⟨true, D.ff, fun _ ax na => ?_, fun z => Bool.noConfusion z⟩
      refine ⟨_, rfl, rfl, cF, d, _, _, rfl, D.xF, D.nF, rfl, upd_same, rfl, ?_⟩
      have sd := same_new (o := .xd [("pair", .ref R)]) nd
      refine ⟨R, _, [.int p.1, .int p.2.1], rfl, .inl (.inl (sd _ _ hR)), .cons (.int _) (.cons (.int _) .nil), io2, by have : PyData.depthAll [PyData.int p.1, PyData.int p.2.1] = 0 := io3; omega, ?_, (by show 2 ≤ sizeLine; decide), fun R2 nR2 => ?_⟩
      · have := tupleText_le [PyData.int p.1, PyData.int p.2.1]
        have h2 : cost [PyData.int p.1, PyData.int p.2.1] ≤ 18 * 2 := io1
        rw [sizeLine_eq]
        omega
      · exact q1 p hp _ R2 ((sH.trans sd).trans (same_new nR2)) upd_same
    · refine ⟨false, D.tf, fun z => Bool.noConfusion z, fun _ => ⟨true, D.tt, fun _ ax na => ?_, fun z => Bool.noConfusion z⟩⟩
      refine ⟨_, rfl, rfl, cT, d, _, _, rfl, D.xT, D.nT, rfl, upd_same, rfl, ?_⟩
      have sd := same_new (o := .xd [("limit", .int 1000000000)]) nd
      refine ⟨_, _, rfl, .int _, by decide +kernel, by decide +kernel, by decide +kernel, fun z => absurd z (by decide +kernel), (by show 2 ≤ sizeLine; decide), fun R2 nR2 => ?_⟩
      rw [show (PyData.int 1000000000).shown = ("1000000000" : Str) by decide +kernel]
      exact q2 hno hex _ R2 ((sH.trans sd).trans (same_new nR2)) upd_same
    · obtain ⟨dx, t, tys, d0, g0, h1, h2, h3, h4, h5⟩ := VX.web.ex
      refine ⟨_, rfl, _, _, _, _, _, rfl, .own C, GK.ty _ _ _ _ h1, GK.own, true, rfl, ?_⟩
      refine ⟨.ref x, rfl, x, C, dx, _, _, rfl, h1, T.cl, T.n1, lk5s _ _ _ _ _, .ref x, rfl, x, C, dx, _, _, rfl, h1, T.cl, T.n2, lk5t _ _ _ _ _, (by show 2 ≤ sizeLine; decide), fun R2 nR2 => ⟨(by show 2 ≤ sizeLine; decide), fun R nR => ?_⟩⟩
      have s1 := same_new (o := .tup [V.int (n : Int), .ref t]) nR2
      have s2 := same_new (o := .tup [V.str "told", .ref R2]) nR
      have s12 := s1.trans s2
      exact q3 hno hno2 _ R R2 t tys T' (sH.trans s12) upd_same (s2 _ _ upd_same) (s12 _ _ h2) (h3.same s12) VX.ties
end
end T77
/-! sorted of a list of tuples of ints that may lie below 0 (not below -S). -/
namespace Wk
open PySem PySem.Spec PyProof.Rows L2 SrtO
/-- the numbers moved up -/
abbrev shI (S : Int) (ns : List Int) : List Int := ns.map (· + S)
section
variable {prog : Program} {w : World} {A : Around} {E : Value → Shared → Prop} {s : Shared}
theorem lex_shift {B S : Int} {fl : Bool} {Z : Bool → Shared → Prop} {us : List Value} {ns : List Int} (hu : IntsAre us ns) : ∀ {ws : List Value} {ms : List Int} (k : Nat), IntsAre ws ms → ns.length = ms.length → TS.Bd B (shI S ns) → TS.Bd B (shI S ms) →
    Z (decide (TS.code B (shI S ns) < TS.code B (shI S ms))) s → PySem.W.KatLex prog w A fl false Z (us.zip ws) k s := by
  induction hu with
  | nil =>
    intro ws ms k hw len b1 b2 z
    cases hw with
    | nil => exact PySem.W.kat_nil (by rwa [show decide (TS.code B (shI S []) < TS.code B (shI S [])) = false from decide_eq_false (Int.lt_irrefl _)] at z)
    | cons q u hy => cases len
  | @cons c tc us ns hu ih =>
    intro ws ms k hw len b1 b2 z
    cases hw with
    | nil => cases len
    | @cons e te ws ms hw =>
      have l1 : ns.length = ms.length := Nat.succ.inj len
      have l2 : (shI S ns).length = (shI S ms).length := by rw [List.length_map, List.length_map, l1]
      replace b1 : TS.Bd B ((c + S) :: shI S ns) := b1
      replace b2 : TS.Bd B ((e + S) :: shI S ms) := b2
      replace z : Z (decide (TS.code B ((c + S) :: shI S ns) < TS.code B ((e + S) :: shI S ms))) s := z
      show PySem.W.KatLex prog w A fl false Z ((Value.int c tc, Value.int e te) :: us.zip ws) k s
      refine PySem.W.kat_cons (wpAny_eqBool_int ?_)
      by_cases g : c = e
      · cases g
        have d : decide (TS.code B ((c + S) :: shI S ns) < TS.code B ((c + S) :: shI S ms)) = decide (TS.code B (shI S ns) < TS.code B (shI S ms)) := decide_eq_decide.mpr (TS.code_same l2)
        rw [d] at z
        rw [beq_self_eq_true c]
        exact PySem.W.kat_yes (ih (k + 1) hw l1 b1.tail b2.tail z)
      · have g' : (c == e) = false := beq_eq_false_iff_ne.mpr g
        have d : decide (TS.code B ((c + S) :: shI S ns) < TS.code B ((e + S) :: shI S ms)) = decide (c < e) := decide_eq_decide.mpr
          ⟨fun x => Classical.byContradiction fun no => (by have := TS.code_lt (B := B) (d := e + S) (e := c + S) l2.symm b2.tail b1.tail (by omega); omega), fun x => TS.code_lt l2 b1.tail b2.tail (by omega)⟩
        rw [d] at z
        rw [g']
        exact PySem.W.kat_no (TS.oneLt_ints _ z)
/-- what is sorted: tuples of d ints each in [-S, B - S) -/
def TupsS (h : Heap) (d : Nat) (B S : Int) (vs : List Value) : Prop := ∀ v, v ∈ vs → ∃ ns, TS.TupInts h v ns ∧ ns.length = d ∧ TS.Bd B (shI S ns)
theorem TupsS.keeps {h h' : Heap} {d : Nat} {B S : Int} {vs : List Value} (x : TupsS h d B S vs) (k : ∀ b o, h.get? b = some o → o.cls = .type "tuple" → h'.get? b = some o) : TupsS h' d B S vs := fun v hv =>
  let ⟨ns, t, r⟩ := x v hv; ⟨ns, t.keeps k, r⟩
/-- the first numbers of them -/
theorem firsts_ofS {h : Heap} {d : Nat} {B S : Int} (h1 : 1 ≤ d) {vs : List Value} (x : TupsS h d B S vs) : ∃ zs, PySem.W.KatTups h vs zs ∧ zs.length = vs.length ∧ ∀ z ∈ zs, ∃ n t, z = Value.int n t := by
  induction vs with
  | nil => exact ⟨[], .nil, rfl, fun z hz => nomatch hz⟩
  | cons v us ih =>
    obtain ⟨zs, c1, c2, c3⟩ := ih fun u hu => x u (.tail _ hu)
    obtain ⟨_, ⟨a, ar, rfl, ⟨o, g1, g2, n, g3⟩, i⟩, len, _⟩ := x v (.head _)
    cases q : ar.toList with
    | nil => rw [q] at i; have := i.length; rw [len] at this; exact absurd this (by simp only [List.length_nil]; omega)
    | cons y ys =>
      refine ⟨y :: zs, .cons g1 g2 g3 ?_ c1, congrArg (· + 1) c2, fun z hz => ?_⟩
      · have e := congrArg (fun l : List Value => l[0]?) q
        simpa using e
      · cases hz with
        | head => exact i.all y (by rw [q]; exact .head _)
        | tail _ hz => exact c3 z hz
/-- the order of the tuples' codes, read at a heap -/
abbrev cLtS (h : Heap) (B S : Int) : Value → Value → Bool := fun v u => decide (TS.code B (shI S (TS.intsOf h v)) < TS.code B (shI S (TS.intsOf h u)))
theorem swo_codeS (h : Heap) (B S : Int) : Swo (cLtS h B S) := by
  refine ⟨fun x y e => ?_, fun x y z e1 e2 => ?_⟩
  · have := of_decide_eq_true e
    exact decide_eq_false (by omega)
  · have a := of_decide_eq_false e1
    have b := of_decide_eq_false e2
    exact decide_eq_false (by omega)
theorem tups_sortableS {a : Addr} {vs : List Value} {d : Nat} {B S : Int} (h0 : 0 < vs.length) (hd : 1 ≤ d) (x : TupsS s.heap d B S vs) (ha : ∀ o, s.heap.get? a = some o → o.cls ≠ .type "tuple") : SortableO prog w A s a vs (cLtS s.heap B S) := by
  intro h' keep
  have k' : ∀ b o, s.heap.get? b = some o → o.cls = .type "tuple" → h'.get? b = some o := fun b o e c => keep b o (fun z => by subst z; exact ha o e c) e
  have x' : TupsS h' d B S vs := x.keeps k'
  obtain ⟨fs, k, hl, hi⟩ := firsts_ofS hd x'
  refine ⟨tuples' true, fun Q E hq => ?_, ?_⟩
  · refine PySem.W.kat_kind (T := .type "int") k (by omega) (fun f hf => ?_) (by rfl) ?_
    · obtain ⟨n, t, rfl⟩ := hi f hf
      exact PySem.W.Looks.now
    · have e : (Value.type "int" != Value.type "tuple") = true := by first | decide +kernel | rfl | decide
      rw [e]
      exact hq
  · intro p q hp hq
    obtain ⟨ns, tp, lp, bp⟩ := x _ hp
    obtain ⟨ms, tq, lq, bq⟩ := x _ hq
    have e : (lt2 (cLtS s.heap B S) p q) = decide (TS.code B (shI S ns) < TS.code B (shI S ms)) := by
      show decide (TS.code B (shI S (TS.intsOf s.heap p.1)) < TS.code B (shI S (TS.intsOf s.heap q.1))) = _
      rw [tp.ints, tq.ints]
    rw [e]
    obtain ⟨b, xs, e1, ⟨o, ho, hc, n, hdt⟩, i⟩ := tp.keeps k'
    obtain ⟨c, ys, e2, ⟨o', ho', hc', n', hdt'⟩, i'⟩ := tq.keeps k'
    rw [e1, e2]
    refine PySem.W.kat_lt ho hdt ho' hdt' ?_
    have sz : decide (xs.size < ys.size) = false := by
      have l1 := i.length
      have l2 := i'.length
      rw [Array.length_toList] at l1 l2
      exact decide_eq_false (by omega)
    rw [sz]
    exact lex_shift i (k := 0) i' (by omega) bp bq ⟨rfl, rfl⟩
theorem srtd_codeS {h : Heap} {B S : Int} {l : List Value} (q : Srtd (cLtS h B S) l) : l.Pairwise fun u v => TS.code B (shI S (TS.intsOf h u)) ≤ TS.code B (shI S (TS.intsOf h v)) := by
  refine List.Pairwise.imp (fun {u v} e => ?_) q
  have := of_decide_eq_false e
  omega
/-- sorted(xs) of a list of tuples, any number of them -/
theorem sorted_tupsS {l : Addr} {vs : List Value} {d : Nat} {B S : Int} {Q : Value → Shared → Prop} (hl : s.heap.IsList l vs.toArray) (hz : vs.length ≤ sizeLine) (hd : 1 ≤ d) (x : TupsS s.heap d B S vs)
    (h : ∀ (h' : Heap) (p : Addr) (out : List Value), out.Perm vs → out.Pairwise (fun u v => TS.code B (shI S (TS.intsOf s.heap u)) ≤ TS.code B (shI S (TS.intsOf s.heap v))) → (∀ b o, s.heap.get? b = some o → h'.get? b = some o) → s.heap.objs.size ≤ p →
      (∃ n, h'.get? p = some (seqObj "list" out.toArray n)) → Q (.ref p) { s with heap := h' }) :
    wpAny (model prog w) A (call (.builtin "sorted") [.ref l]) Q E s := by
  refine sorted_ord (swo_codeS s.heap B S) hl hz (fun h2 h₁ a ha kk => ?_) fun out hs hb => ?_
  · have keep : ∀ b o, s.heap.get? b = some o → o.cls = .type "tuple" → h₁.get? b = some o := fun b o e _ => (kk b o e).2
    have q := tups_sortableS (prog := prog) (w := w) (A := A.in1.in1) (s := { s with heap := h₁ }) (a := a) (vs := vs) (B := B) (S := S) (by omega) hd (x.keeps keep) fun o e => by
      have e' : some o = some (seqObj "list" vs.toArray 0) := e.symm.trans ha
      cases e'
      intro c
      exact absurd (Value.type.inj c) (by decide)
    intro h' keep2
    obtain ⟨κ, k1, k2⟩ := q h' keep2
    refine ⟨κ, k1, fun p r hp hr => ?_⟩
    have z := k2 p r hp hr
    have e : lt2 (cLtS h₁ B S) p r = lt2 (cLtS s.heap B S) p r := by
      obtain ⟨ns, tp, _⟩ := x _ hp
      obtain ⟨ms, tq, _⟩ := x _ hr
      show decide (TS.code B (shI S (TS.intsOf h₁ p.1)) < TS.code B (shI S (TS.intsOf h₁ r.1))) = decide (TS.code B (shI S (TS.intsOf s.heap p.1)) < TS.code B (shI S (TS.intsOf s.heap r.1)))
      rw [tp.ints, tq.ints, (tp.keeps keep).ints, (tq.keeps keep).ints]
    rw [← e]
    exact z
  · exact h _ _ out hb.perm (srtd_codeS hs) (fun b o e => sortedAll_old e) (Nat.le_succ _) (sortedAll_at s.heap vs out.toArray)
end
section
variable {X : Cx}
/-- sorted(xs), xs a list of tuples of d ints in [0, B), however many: a new list of the same, ascending by code B -/
def rSortUS (K : PySem.W.Frag) (d : Nat) (B S : Int) : List V → Hp → VK → Prop := fun vs H Q => ∃ (a : Addr) (xs : List V), vs = [V.ref a] ∧ SqL K H a xs ∧ (∀ x ∈ xs, ∃ ns, TupI K H x ns ∧ ns.length = d ∧ TS.Bd B (shI S ns)) ∧
  ∀ (ys : List V) (p : Addr), ys.Perm xs → ys.Pairwise (fun x y => ∀ n m, TupI K H x n → TupI K H y m → TS.code B (shI S n) ≤ TS.code B (shI S m)) → H p = none → Q (.ref p) (upd H p (.lst ys))
theorem cr_sortTS {d : Nat} {B S : Int} (hd : 1 ≤ d) : CallR X (.builtin "sorted") (rSortUS X.K d B S) := by
  intro pins s σ H vs us Q I r h
  obtain ⟨a, xs, rfl, hs, hx, q⟩ := h
  obtain ⟨its, rv, hl, hz⟩ := I.list hs
  rw [Vals.ref1 r]
  obtain ⟨e1, e2⟩ := bkV_refs rv fun x m => by
    obtain ⟨ns, ⟨t, e, _⟩, _⟩ := hx x m
    exact ⟨t, e⟩
  refine sorted_tupsS (d := d) (B := B) (S := S) hl.isList (by rw [← rv.length]; exact hz) hd (fun v hv => ?_) fun h' p out h1 h2 k hp ⟨ep, he'⟩ => ?_
  · obtain ⟨t, rfl⟩ := e2 v hv
    have hm : V.ref t ∈ xs := by
      rw [e1]
      exact List.mem_map.mpr ⟨_, hv, rfl⟩
    obtain ⟨ns, ⟨t', e, ht⟩, hn, hb⟩ := hx _ hm
    cases e
    exact ⟨ns, tupI_raw I ht, hn, hb⟩
  · have h3 : ∀ u ∈ out, ∃ a, u = Value.ref a := fun u hu => e2 u (h1.mem_iff.mp hu)
    have hpm : (out.map bkV).Perm xs := by
      rw [e1]
      exact h1.map bkV
    have hlen : (out.map bkV).length ≤ sizeLine := by
      rw [hpm.length_eq]
      exact hz
    refine ⟨.ref _, upd H p (.lst (out.map bkV)), I.laid (t' := s.toks) k hp ⟨hlen, out, ep, bkV_vals h3, he'⟩, rfl, q _ _ hpm ?_ (I.hok.fresh hp)⟩
    rw [List.pairwise_map]
    refine List.Pairwise.imp (fun {u v} huv n m hn hm => ?_) h2
    obtain ⟨t, et, ht⟩ := hn
    obtain ⟨t', et', ht'⟩ := hm
    have eu := bkV_ref et
    have ev := bkV_ref et'
    have i1 : TS.intsOf s.heap u = n := by
      rw [eu]
      exact (tupI_raw I ht).ints
    have i2 : TS.intsOf s.heap v = m := by
      rw [ev]
      exact (tupI_raw I ht').ints
    rw [← i1, ← i2]
    exact huv
end
end Wk
/-! The mathematics of the law. -/
namespace T77
open PySem PySem.Spec PyProof.Rows L2 L2H Wk Vb StX RZ HT
theorem sort_fix {S Z : List T3} {n : Nat} {ks : List (List Int)} (hS : SumW n S) (hn : n ≤ 60) (hZp : Z.Perm S) (hZo : Z.Pairwise lt2) (hp : ks.Perm (S.map kk)) (ho : ks.Pairwise fun n m => TS.code 61 n ≤ TS.code 61 m) : Z.map kk = ks := by
  obtain ⟨Z', h1, h2, h3⟩ := sorted_back (bdK_of hn hS.bd) hp ho
  rw [sorted_one hZp h1 hZo (lt2_of (hS.dif.perm h1) h3), h2]
/-- every list with no pair twice can be sorted -/
theorem ins_asc (p : T3) : ∀ {Z : List T3}, Z.Pairwise lt2 → (∀ q ∈ Z, ¬ key p q) → ∃ Z' : List T3, Z'.Perm (p :: Z) ∧ Z'.Pairwise lt2
  | [], _, _ => ⟨[p], .refl _, List.pairwise_singleton _ _⟩
  | q :: Z, h, hk => by
    obtain ⟨h1, h2⟩ := List.pairwise_cons.mp h
    by_cases c : lt2 p q
    · refine ⟨p :: q :: Z, .refl _, List.pairwise_cons.mpr ⟨fun r hr => ?_, h⟩⟩
      rcases List.mem_cons.mp hr with rfl | hr
      · exact c
      · exact c.trans (h1 r hr)
    · obtain ⟨Z', a, b⟩ := ins_asc p h2 fun r hr => hk r (List.mem_cons_of_mem _ hr)
      refine ⟨q :: Z', (a.cons q).trans (.swap p q Z), List.pairwise_cons.mpr ⟨fun r hr => ?_, b⟩⟩
      rcases List.mem_cons.mp (a.mem_iff.mp hr) with rfl | hr
      · have := hk q List.mem_cons_self
        unfold lt2 key at *
        omega
      · exact h1 r hr
theorem ex_asc : ∀ {S : List T3}, Dif S → ∃ Z : List T3, Z.Perm S ∧ Z.Pairwise lt2
  | [], _ => ⟨[], .refl _, .nil⟩
  | p :: S, h => by
    obtain ⟨h1, h2⟩ := List.pairwise_cons.mp h
    obtain ⟨Z, a, b⟩ := ex_asc h2
    obtain ⟨Z', c, d⟩ := ins_asc p b fun q hq => h1 q (a.mem_iff.mp hq)
    exact ⟨Z', c.trans (a.cons p), d⟩
theorem gr_amt {l : List T3} (h : ∀ p ∈ l, p.1 < p.2.1) {i j : Nat} (hij : i < j) : gr l i j = amt l i j := by
  unfold gr amt
  congr 1
  refine List.map_congr_left fun p hp => ?_
  have := h p hp
  by_cases c : p.1 = (i : Int) ∧ p.2.1 = (j : Int)
  · rw [if_pos (.inl c), if_pos c]
  · rw [if_neg c, if_neg]
    rintro (z | z)
    · exact c z
    · omega
/-- the order told by the pairs alone -/
def lt2k (a b : List Int) : Prop := a.getD 0 0 < b.getD 0 0 ∨ (a.getD 0 0 = b.getD 0 0 ∧ a.getD 1 0 < b.getD 1 0)
theorem asc_kk {l m : List T3} (h : l.map kk = m.map kk) (o : m.Pairwise lt2) : l.Pairwise lt2 := by
  have a : (m.map kk).Pairwise lt2k := List.pairwise_map.mpr o
  rw [← h] at a
  exact (List.pairwise_map (f := kk) (R := lt2k)).mp a
theorem mem_kk {l m : List T3} (h : l.map kk = m.map kk) {p : T3} (hp : p ∈ l) : ∃ q ∈ m, q.1 = p.1 ∧ q.2.1 = p.2.1 := by
  have a : kk p ∈ m.map kk := by rw [← h]; exact List.mem_map.mpr ⟨p, hp, rfl⟩
  obtain ⟨q, hq, e⟩ := List.mem_map.mp a
  unfold kk at e
  injection e with e1 e2
  injection e2 with e2 _
  exact ⟨q, hq, e1, e2⟩
theorem inS_kk {l m : List T3} (h : l.map kk = m.map kk) (u v : Int) : inS l u v = inS m u v := by
  have : inS l u v = true ↔ inS m u v = true := by
    rw [inS_iff, inS_iff]
    constructor
    · rintro ⟨p, hp, rfl, rfl⟩; exact mem_kk h hp
    · rintro ⟨p, hp, rfl, rfl⟩; exact mem_kk h.symm hp
  cases e : inS l u v <;> cases e' : inS m u v <;> simp_all
theorem amt_rng {l : List T3} (h : l.Pairwise lt2) (b : ∀ p ∈ l, 0 ≤ p.2.2 ∧ p.2.2 ≤ 1000000000) (u v : Int) : 0 ≤ amt l u v ∧ amt l u v ≤ 1000000000 := by
  by_cases c : amt l u v = 0
  · omega
  · obtain ⟨p, hp, rfl, rfl⟩ := mem_amt c
    rw [amt_mem h hp]
    exact b p hp
theorem amt_posS : ∀ {l : List T3}, (∀ p ∈ l, 0 ≤ p.2.2) → ∀ u v, amt (l.filter fun p => decide (p.2.2 > 0)) u v = amt l u v
  | [], _, _, _ => rfl
  | p :: l, h, u, v => by
    have ih := amt_posS (l := l) (fun q hq => h q (List.mem_cons_of_mem _ hq)) u v
    have := h p List.mem_cons_self
    by_cases c : p.2.2 > 0
    · rw [List.filter_cons_of_pos (by exact decide_eq_true c), amt_cons, amt_cons, ih]
    · rw [List.filter_cons_of_neg (by simpa using c), amt_cons, ih]
      split <;> omega
/-- what the law has made: the walk's sums S, sorted Z; the bundles under them B; those beside them M -/
structure Made (n : Nat) (S Z B M : List T3) : Prop where
  s : SumW n S
  zp : Z.Perm S
  zo : Z.Pairwise lt2
  bk : B.map kk = Z.map kk
  bv : ∀ p ∈ B, 0 ≤ p.2.2 ∧ p.2.2 ≤ 1000000000
  mo : M.Pairwise lt2
  mm : ∀ p ∈ M, (0 ≤ p.1 ∧ p.1 < p.2.1 ∧ p.2.1 < (n : Int)) ∧ (0 < p.2.2 ∧ p.2.2 ≤ 1000000000) ∧ inS S p.1 p.2.1 = false
section
variable {n : Nat} {S Z B M : List T3}
theorem Made.bb (h : Made n S Z B M) : ∀ p ∈ B, 0 ≤ p.1 ∧ p.1 < p.2.1 ∧ p.2.1 < (n : Int) := fun p hp => by
  obtain ⟨q, hq, e1, e2⟩ := mem_kk h.bk hp
  have := h.s.bd q (h.zp.mem_iff.mp hq)
  omega
theorem Made.nm (h : Made n S Z B M) : ∀ p ∈ M ++ B, 0 ≤ p.1 ∧ p.1 < p.2.1 ∧ p.2.1 < (n : Int) ∧ 0 ≤ p.2.2 ∧ p.2.2 ≤ 1000000000 := fun p hp => by
  rcases List.mem_append.mp hp with hp | hp
  · have := h.mm p hp; omega
  · have := h.bb p hp; have := h.bv p hp; omega
theorem Made.mz (h : Made n S Z B M) {u v : Int} (e : inS S u v = true) : amt M u v = 0 := amt_zero fun p hp k => by
  have := (h.mm p hp).2.2
  rw [k.1, k.2, e] at this
  cases this
theorem Made.bz (h : Made n S Z B M) {u v : Int} (e : inS S u v = false) : amt B u v = 0 := by
  refine amt_out ?_
  rw [inS_kk h.bk, inS_perm h.zp, e]
theorem Made.bd (h : Made n S Z B M) (u v : Int) : amt (M ++ B) u v ≤ 1000000000 := by
  have a := amt_rng h.mo (fun p hp => by have := (h.mm p hp).2.1; omega) u v
  have b := amt_rng (asc_kk h.bk h.zo) h.bv u v
  rw [amt_append]
  cases e : inS S u v with
  | true => rw [h.mz e]; omega
  | false => rw [h.bz e]; omega
theorem Made.norm (h : Made n S Z B M) : (M ++ B).map norm = M ++ B := ties_norm fun p hp => (h.nm p hp).2.1
theorem Made.tie (h : Made n S Z B M) (hn : n ≤ 60) : ∀ p ∈ M ++ B, tieB p.1 p.2.1 p.2.2 (n : Int) = true := fun p hp => by
  have := h.nm p hp
  exact tieB_iff.mpr ⟨by omega, by omega, by omega, by omega, by omega, by omega, by omega⟩
theorem Made.atZ (h : Made n S Z B M) {p : T3} (hp : p ∈ Z) : amt (M ++ B) p.1 p.2.1 = amt B p.1 p.2.1 := by
  rw [amt_append, h.mz (inS_iff.mpr ⟨p, h.zp.mem_iff.mp hp, rfl, rfl⟩), Int.zero_add]
theorem Made.low (h : Made n S Z B M) : Z.filter (lowB (amt (M ++ B))) = Z.filter (lowB (amt B)) := List.filter_congr fun p hp => by unfold lowB; rw [h.atZ hp]
theorem Made.high (h : Made n S Z B M) : Z.filter (highB (amt (M ++ B))) = Z.filter (highB (amt B)) := List.filter_congr fun p hp => by unfold highB; rw [h.atZ hp]
theorem Made.dm (h : Made n S Z B M) : Dif (chg (amt B) Z ++ M) := by
  refine List.pairwise_append.mpr ⟨?_, lt2_dif h.mo, fun p hp q hq k => ?_⟩
  · exact List.pairwise_map.mpr ((h.s.dif.perm h.zp).imp fun {p q} k => k)
  · obtain ⟨r, hr, rfl⟩ := List.mem_map.mp hp
    have a := (h.mm q hq).2.2
    rw [inS_iff.mpr ⟨r, h.zp.mem_iff.mp hr, k.1, k.2⟩] at a
    cases a
theorem Made.bm (h : Made n S Z B M) : ∀ p ∈ chg (amt B) Z ++ M, 0 ≤ p.1 ∧ p.1 < p.2.1 ∧ p.2.1 < (n : Int) ∧ -14 ≤ p.2.2 ∧ p.2.2 ≤ 1000000014 := fun p hp => by
  rcases List.mem_append.mp hp with hp | hp
  · obtain ⟨r, hr, rfl⟩ := List.mem_map.mp hp
    have a := h.s.bd r (h.zp.mem_iff.mp hr)
    have b := h.s.val r (h.zp.mem_iff.mp hr)
    have c := amt_rng (asc_kk h.bk h.zo) h.bv r.1 r.2.1
    dsimp only
    omega
  · have := h.mm p hp
    omega
theorem Made.ties (h : Made n S Z B M) (hlo : Z.filter (lowB (amt B)) = []) {T2 : List T3} (hp : T2.Perm (chg (amt B) Z ++ M)) (ho : T2.Pairwise lt2) : TiesOf (n : Int) (fun u v => amt (M ++ B) u v + amt S u v) (T2.filter fun p => decide (p.2.2 > 0)) := by
  have pos : ∀ p ∈ T2, 0 ≤ p.2.2 := fun p hp' => by
    rcases List.mem_append.mp (hp.mem_iff.mp hp') with z | z
    · obtain ⟨r, hr, rfl⟩ := List.mem_map.mp z
      have := List.filter_eq_nil_iff.mp hlo r hr
      unfold lowB at this
      simp only [decide_eq_true_eq] at this
      dsimp only
      omega
    · have := (h.mm p z).2.1; omega
  refine ⟨ho.filter _, fun p hp' => ?_, fun u v => ?_⟩
  · obtain ⟨a, b⟩ := List.mem_filter.mp hp'
    have c := h.bm p (hp.mem_iff.mp a)
    have b := of_decide_eq_true b
    omega
  · rw [amt_posS pos, amt_perm hp, amt_append, amt_chg _ (h.s.dif.perm h.zp), inS_perm h.zp, amt_perm h.zp, amt_append]
    cases e : inS S u v with
    | true => rw [if_pos rfl, h.mz e]; omega
    | false => rw [if_neg (by decide), h.bz e, amt_out e]; omega
end
/-- by the whole pairs and the number: the order of sorted -/
theorem le2_of_codeS {p q : T3} {B S : Int} (hp : TS.Bd B (shI S [p.1, p.2.1, p.2.2])) (hq : TS.Bd B (shI S [q.1, q.2.1, q.2.2])) (h : TS.code B (shI S [p.1, p.2.1, p.2.2]) ≤ TS.code B (shI S [q.1, q.2.1, q.2.2])) : lt2 p q ∨ key p q := by
  have := le2_of_code (B := B) (p := (p.1 + S, p.2.1 + S, p.2.2 + S)) (q := (q.1 + S, q.2.1 + S, q.2.2 + S)) hp hq h
  unfold lt2 key at *
  dsimp only at this
  omega
theorem Trs.orderS {K : PySem.W.Frag} {H : Hp} {B S : Int} : ∀ {xs : List V} {ps : List T3}, Trs K H xs ps → (∀ p ∈ ps, TS.Bd B (shI S [p.1, p.2.1, p.2.2])) → xs.Pairwise (fun x y => ∀ n m, TupI K H x n → TupI K H y m → TS.code B (shI S n) ≤ TS.code B (shI S m)) →
    ps.Pairwise fun p q => lt2 p q ∨ key p q
  | [], [], _, _, _ => .nil
  | x :: xs, p :: ps, h, hb, hp => by
    obtain ⟨p1, p2⟩ := List.pairwise_cons.mp hp
    refine List.pairwise_cons.mpr ⟨fun q hq => ?_, Trs.orderS h.2 (fun q hq => hb q (List.mem_cons_of_mem _ hq)) p2⟩
    obtain ⟨i, hi, e⟩ := List.mem_iff_getElem.mp hq
    have hlt : i < xs.length := by rw [Trs.length h.2]; exact hi
    obtain ⟨q', e', tq⟩ := Trs.get h.2 (List.getElem?_eq_getElem hlt)
    rw [List.getElem?_eq_getElem hi, e] at e'
    cases e'
    exact le2_of_codeS (hb p List.mem_cons_self) (hb q (List.mem_cons_of_mem _ hq)) (p1 _ (List.getElem_mem hlt) _ _ h.1.tupI tq.tupI)
  | [], _ :: _, h, _, _ => h.elim
  | _ :: _, [], h, _, _ => h.elim
/-! ### turned back -/
theorem back_low {n : Nat} {S S2 Z2 : List T3} {am : Int → Int → Int} (h2 : SumW n S2) (hp : Z2.Perm S2) (e : ∀ u v, amt S2 u v = -amt S u v) (pos : ∀ u v, 0 ≤ am u v) : Z2.filter (lowB fun u v => am u v + amt S u v) = [] := by
  rw [List.filter_eq_nil_iff]
  intro q hq
  have a := dif_amt h2.dif (hp.mem_iff.mp hq)
  rw [e] at a
  have := pos q.1 q.2.1
  unfold lowB
  simp only [decide_eq_true_eq]
  omega
theorem back_high {n : Nat} {S S2 Z2 : List T3} {am : Int → Int → Int} (h2 : SumW n S2) (hp : Z2.Perm S2) (e : ∀ u v, amt S2 u v = -amt S u v) (top : ∀ u v, am u v ≤ 1000000000) : ∀ q ∈ Z2, highB (fun u v => am u v + amt S u v) q = false := fun q hq => by
  have a := dif_amt h2.dif (hp.mem_iff.mp hq)
  rw [e] at a
  have := top q.1 q.2.1
  unfold highB
  exact decide_eq_false (by dsimp only; omega)
/-! ### what is due -/
inductive Due where
  | few (u v : Int)
  | many
  | told (n : Nat) (T : List T3)
def Due.tag : Due → Str
  | .few _ _ => "TooFew"
  | .many => "TooMany"
  | .told _ _ => "told"
def DueAt (K : PySem.W.Frag) (H : Hp) (R : Addr) : Due → Prop
  | .few u v => H R = some (.tup [.str "TooFew", .str (txt2 u v)])
  | .many => H R = some (.tup [.str "TooMany", .str "1000000000"])
  | .told n T => ∃ R2 t ys, H R = some (.tup [.str "told", .ref R2]) ∧ H R2 = some (.tup [.int (n : Int), .ref t]) ∧ H t = some (.tup ys) ∧ Trs K H ys T
def Due.data : Due → PyData
  | .few u v => .tuple [.str "TooFew", .str (txt2 u v)]
  | .many => .tuple [.str "TooMany", .str "1000000000"]
  | .told n T => .tuple [.str "told", .tuple [.int (n : Int), .tuple (T.map d3)]]
def Due.fine : Due → Prop
  | .few u v => (0 ≤ u ∧ u ≤ 60) ∧ (0 ≤ v ∧ v ≤ 60)
  | _ => True
theorem DueAt.same {K : PySem.W.Frag} {H H' : Hp} {R : Addr} (s : Same H H') : ∀ {d : Due}, DueAt K H R d → DueAt K H' R d
  | .few _ _, h => s _ _ h
  | .many, h => s _ _ h
  | .told _ _, ⟨R2, t, ys, a, b, c, d⟩ => ⟨R2, t, ys, s _ _ a, s _ _ b, s _ _ c, d.same s⟩
theorem DueAt.dp {K : PySem.W.Frag} {H : Hp} {R : Addr} : ∀ {d : Due}, DueAt K H R d → Dp K H (.ref R) d.data
  | .few _ _, h => .tup (.inl (.inl h)) (.cons (.str _) (.cons (.str _) .nil))
  | .many, h => .tup (.inl (.inl h)) (.cons (.str _) (.cons (.str _) .nil))
  | .told _ _, ⟨R2, t, ys, a, b, c, d⟩ => .tup (.inl (.inl a)) (.cons (.str _) (.cons (.tup (.inl (.inl b)) (.cons (.int _) (.cons (.tup (.inl (.inl c)) d.dp) .nil))) .nil))
theorem DueAt.tag {K : PySem.W.Frag} {H : Hp} {R : Addr} : ∀ {d : Due}, DueAt K H R d → ∃ x, H R = some (.tup [.str d.tag, x])
  | .few _ _, h => ⟨_, h⟩
  | .many, h => ⟨_, h⟩
  | .told _ _, ⟨R2, t, ys, a, b, c, d⟩ => ⟨_, a⟩
end T77
/-! What the law's steps do. -/
namespace T77
open PySem PySem.Spec PyProof.Rows L2 L2H Wk Vb StX RZ HT
/-- all that was tracked stands, but at b and at A -/
def But2 (b A : Addr) (H H' : Hp) : Prop := ∀ c o, c ≠ b → c ≠ A → H c = some o → H' c = some o
theorem But2.refl (b A : Addr) (H : Hp) : But2 b A H H := fun _ _ _ _ h => h
theorem But2.trans {b A : Addr} {H H1 H2 : Hp} (x : But2 b A H H1) (y : But2 b A H1 H2) : But2 b A H H2 := fun c o h1 h2 e => y c o h1 h2 (x c o h1 h2 e)
theorem But2.of {b A : Addr} {H H' : Hp} (x : But b H H') : But2 b A H H' := fun c o h1 _ e => x c o h1 e
theorem But2.upd (b A : Addr) (H : Hp) (o : HO) : But2 b A H (upd H A o) := fun c u _ h e => by rw [upd_ne h]; exact e
/-- pairs of places, as tuples -/
def Prs (H : Hp) : List Addr → List T3 → Prop
  | [], [] => True
  | r :: rs, p :: l => H r = some (.tup [.int p.1, .int p.2.1]) ∧ Prs H rs l
  | _, _ => False
theorem Prs.same {H H' : Hp} (s : Same H H') : ∀ {rs : List Addr} {l : List T3}, Prs H rs l → Prs H' rs l
  | [], [], _ => True.intro
  | _ :: _, _ :: _, h => ⟨s _ _ h.1, Prs.same s h.2⟩
  | [], _ :: _, h => h.elim
  | _ :: _, [], h => h.elim
theorem Prs.but {H H' : Hp} {b : Addr} {x0 : Int} {xs : List V} (hb : H b = some (.lst xs)) (s : But b H H') : ∀ {rs : List Addr} {l : List T3}, Prs H rs l → Prs H' rs l
  | [], [], _ => True.intro
  | _ :: _, _ :: _, h => ⟨s _ _ (fun z => by have := h.1; rw [z, hb] at this; cases this) h.1, Prs.but (x0 := x0) hb s h.2⟩
  | [], _ :: _, h => h.elim
  | _ :: _, [], h => h.elim
theorem Prs.append {H : Hp} : ∀ {rs qs : List Addr} {l m : List T3}, Prs H rs l → Prs H qs m → Prs H (rs ++ qs) (l ++ m)
  | [], _, [], _, _, h => h
  | _ :: _, _, _ :: _, _, h, k => ⟨h.1, Prs.append h.2 k⟩
  | [], _, _ :: _, _, h, _ => h.elim
  | _ :: _, _, [], _, h, _ => h.elim
theorem Prs.length {H : Hp} : ∀ {rs : List Addr} {l : List T3}, Prs H rs l → rs.length = l.length
  | [], [], _ => rfl
  | _ :: _, _ :: _, h => congrArg (· + 1) (Prs.length h.2)
  | [], _ :: _, h => h.elim
  | _ :: _, [], h => h.elim
def d2 (p : T3) : PyData := .tuple [.int p.1, .int p.2.1]
theorem Prs.dp {K : PySem.W.Frag} {H : Hp} : ∀ {rs : List Addr} {l : List T3}, Prs H rs l → DpAll K H (rs.map V.ref) (l.map d2)
  | [], [], _ => .nil
  | _ :: _, _ :: _, h => .cons (.tup (.inl (.inl h.1)) (.cons (.int _) (.cons (.int _) .nil))) (Prs.dp h.2)
  | [], _ :: _, h => h.elim
  | _ :: _, [], h => h.elim
theorem shapedP (T : List T3) : SeqAt.shaped (.list (T.map d2)) = true := by
  have h1 : ∀ T : List T3, PyData.canLayAll0 (T.map d2) = true := fun T => by
    induction T with
    | nil => simp [PyData.canLayAll0]
    | cons p T ih => rw [List.map_cons, PyData.canLayAll0, ih, d2]; simp [PyData.canLay0, PyData.canLayAll0]
  have h2 : ∀ T : List T3, PyData.depthAll (T.map d2) ≤ 1 := fun T => by
    induction T with
    | nil => simp [PyData.depthAll]
    | cons p T ih => rw [List.map_cons, PyData.depthAll, d2]; simp [PyData.depth, PyData.depthAll]; omega
  unfold SeqAt.shaped
  rw [PyData.canLay0, PyData.depth, h1, Bool.true_and]
  have := h2 T
  exact decide_eq_true (by omega)
/-- pairs != [] -/
theorem ne_pairs {K : PySem.W.Frag} {H : Hp} {L E : Addr} {rs : List Addr} {l : List T3} {Q : VK} (hL : H L = some (.lst (rs.map V.ref))) (h : Prs H rs l) (hE : H E = some (.lst [])) (q : Q (.bl (!decide (l = []))) H) : rNeD K (.ref L) (.ref E) H Q := by
  refine ⟨_, _, .lst (.inl (.inl hL)) h.dp, .lst (.inl (.inl hE)) .nil, shapedP l, shapedP [], ?_⟩
  have e : PyData.eqv (.list (l.map d2)) (.list []) = decide (l = []) := by
    rw [PyData.eqv]
    cases l <;> simp [PyData.eqvAll]
  rw [e]
  exact q
/-- walk != kept -/
theorem ne_walk {K : PySem.W.Frag} {H : Hp} {L E : Addr} {ws : List Int} {Q : VK} (hL : H L = some (.lst (ws.map V.int))) (hE : H E = some (.lst (ws.map V.int))) (q : Q (.bl false) H) : rNeD K (.ref L) (.ref E) H Q := by
  refine ⟨_, _, .lst (.inl (.inl hL)) (dpI ws), .lst (.inl (.inl hE)) (dpI ws), shapedL ws, shapedL ws, ?_⟩
  rw [eqvLI, decide_eq_true rfl]
  exact q
theorem txt_ok {u v : Int} (hu : 0 ≤ u ∧ u ≤ 60) (hv : 0 ≤ v ∧ v ≤ 60) : PyData.strOk (txt2 u v) = true := by
  obtain ⟨a, rfl⟩ := Int.eq_ofNat_of_zero_le hu.1
  obtain ⟨b, rfl⟩ := Int.eq_ofNat_of_zero_le hv.1
  have key : ∀ a : Fin 61, PyData.strOk (PyData.int (a.val : Int)).shown = true := by decide +kernel
  have e : txt2 (a : Int) (b : Int) = ("(" : Str) ++ ((PyData.int (a : Int)).shown ++ (", " : Str) ++ (PyData.int (b : Int)).shown) ++ (")" : Str) := by
    unfold txt2 tupleText
    rw [PyData.shownAll, PyData.shownAll, PyData.shownAll]
    rfl
  rw [e]
  exact ok_app (ok_app (ok_of "(") (ok_app (ok_app (key ⟨a, by omega⟩) (ok_of ", ")) (key ⟨b, by omega⟩))) (ok_of ")")
theorem Due.ok {d : Due} (h : d.fine) : SeqAt.shaped d.data = true ∧ PyData.eqv d.data d.data = true := by
  have key : ∀ x : PyData, x.canLay0 = true → x.depth ≤ 64 → SeqAt.shaped x = true ∧ PyData.eqv x x = true := fun x a b => ⟨by unfold SeqAt.shaped; rw [a, Bool.true_and]; exact decide_eq_true b, SeqAt.eqv_refl x a⟩
  cases d with
  | few u v =>
    refine key _ ?_ ?_
    · show PyData.canLay0 (.tuple [.str "TooFew", .str (txt2 u v)]) = true
      rw [PyData.canLay0, PyData.canLayAll0, PyData.canLayAll0, PyData.canLayAll0, PyData.canLay0, PyData.canLay0, txt_ok h.1 h.2, show PyData.strOk ("TooFew" : Str) = true from ok_of "TooFew"]
      rfl
    · show PyData.depth (.tuple [.str "TooFew", .str (txt2 u v)]) ≤ 64
      simp [PyData.depth, PyData.depthAll]
  | many =>
    refine key _ ?_ ?_
    · show PyData.canLay0 (.tuple [.str "TooMany", .str "1000000000"]) = true
      rw [PyData.canLay0, PyData.canLayAll0, PyData.canLayAll0, PyData.canLayAll0, PyData.canLay0, PyData.canLay0, show PyData.strOk ("TooMany" : Str) = true from ok_of "TooMany", show PyData.strOk ("1000000000" : Str) = true from ok_of "1000000000"]
      rfl
    · show PyData.depth (.tuple [.str "TooMany", .str "1000000000"]) ≤ 64
      simp [PyData.depth, PyData.depthAll]
  | told n T =>
    have hs := shapedT T
    have a := SeqAt.canLay_of_shaped hs
    have b : PyData.depth (.tuple (T.map d3)) ≤ 60 := by
      have h2 : ∀ T : List T3, PyData.depthAll (T.map d3) ≤ 1 := fun T => by
        induction T with
        | nil => simp [PyData.depthAll]
        | cons p T ih => rw [List.map_cons, PyData.depthAll, d3]; simp [PyData.depth, PyData.depthAll]; omega
      have := h2 T
      rw [PyData.depth]
      omega
    refine key _ ?_ ?_
    · show PyData.canLay0 (.tuple [.str "told", .tuple [.int (n : Int), .tuple (T.map d3)]]) = true
      generalize PyData.tuple (T.map d3) = x at a
      rw [PyData.canLay0, PyData.canLayAll0, PyData.canLayAll0, PyData.canLayAll0, PyData.canLay0, PyData.canLay0, PyData.canLayAll0, PyData.canLayAll0, PyData.canLayAll0, PyData.canLay0, a, show PyData.strOk ("told" : Str) = true from ok_of "told"]
      rfl
    · show PyData.depth (.tuple [.str "told", .tuple [.int (n : Int), .tuple (T.map d3)]]) ≤ 64
      generalize PyData.tuple (T.map d3) = x at b
      simp [PyData.depth, PyData.depthAll]
      omega
/-- what is told, against what is due -/
theorem ne_due {K : PySem.W.Frag} {H : Hp} {R E : Addr} {d : Due} {Q : VK} (h1 : DueAt K H R d) (h2 : DueAt K H E d) (hf : d.fine) (q : Q (.bl false) H) : rNeD K (.ref R) (.ref E) H Q := by
  obtain ⟨a, b⟩ := Due.ok hf
  refine ⟨_, _, h1.dp, h2.dp, a, a, ?_⟩
  rw [b]
  exact q
/-- a dict's keys, sorted -/
theorem sortD_step {K : PySem.W.Frag} {H : Hp} {D : Addr} {S Z : List T3} {n : Nat} {Q : VK} (hD : H D = some (.dT (S.map ent))) (hS : SumW n S) (hn : n ≤ 60) (hZp : Z.Perm S) (hZo : Z.Pairwise lt2)
    (q : ∀ H' p rs, Same H H' → New H p → H' p = some (.lst (rs.map V.ref)) → Prs H' rs Z → Q (.ref p) H') : rSortDA 2 61 [.ref D] H Q := by
  have hB := bdK_of hn hS.bd
  refine ⟨D, _, _, rfl, hD, sd1, by rw [List.length_map, sizeLine_eq]; have := hS.len; omega, fun m hm => ?_, fun ys p hperm hord hys np => ?_⟩
  · obtain ⟨r, hr', rfl⟩ := List.mem_map.mp hm
    exact ⟨rfl, hB r hr'⟩
  have hZk := sort_fix hS hn hZp hZo hperm hord
  have sp := same_new (o := .lst (ys.map fun y => V.ref y.1)) (show New H p from np)
  have prs : ∀ (ys : List (Addr × List Int)) (Z : List T3), Z.map kk = ys.map (·.2) → (∀ y ∈ ys, H y.1 = some (.tup (y.2.map V.int))) → Prs H (ys.map (·.1)) Z := fun ys => by
    induction ys with
    | nil => intro Z e _; cases Z with | nil => exact True.intro | cons z Z => cases e
    | cons y ys ih =>
      intro Z e h
      cases Z with
      | nil => cases e
      | cons z Z =>
        injection e with e1 e2
        refine ⟨?_, ih Z e2 fun y hy => h y (List.mem_cons_of_mem _ hy)⟩
        have := h y List.mem_cons_self
        have e1 : kk z = y.2 := e1
        rw [← e1] at this
        exact this
  have := q _ p (ys.map (·.1)) sp np (by rw [upd_same, List.map_map]; rfl) ((prs ys Z hZk hys).same sp)
  exact this
theorem Prs.get {H : Hp} : ∀ {rs : List Addr} {l : List T3} {i : Nat} {r : Addr}, Prs H rs l → rs[i]? = some r → ∃ p, l[i]? = some p ∧ H r = some (.tup [.int p.1, .int p.2.1])
  | [], [], _, _, _, e => by simp at e
  | r :: rs, p :: l, 0, _, h, e => by cases e; exact ⟨p, rfl, h.1⟩
  | r :: rs, p :: l, i + 1, _, h, e => by
    obtain ⟨q, a, b⟩ := Prs.get (i := i) h.2 (by simpa using e)
    exact ⟨q, by simpa using a, b⟩
  | [], _ :: _, _, _, h, _ => h.elim
  | _ :: _, [], _, _, h, _ => h.elim
/-- grid[pair[0]][pair[1]] + sums[pair] -/
theorem cell_sum {K : PySem.W.Frag} {σ : L2.St} {H : Hp} {Q : VK} {G y D : Addr} {n : Nat} {g : Nat → Nat → Int} {f : Int → Int → Int} {S : List T3} {p : T3} {i10 i9 i6 : Nat} (h10 : σ[i10]? = some (some (.ref G))) (h9 : σ[i9]? = some (some (.ref y))) (h6 : σ[i6]? = some (some (.ref D)))
    (hG : GridAt H G n g) (hy : H y = some (.tup [.int p.1, .int p.2.1])) (hD : H D = some (.dT (S.map ent))) (hS : SumW n S) (hp : p ∈ S) (hf : ∀ i j : Nat, i < j → g i j = f i j) (q : Q (.int (f p.1 p.2.1 + p.2.2)) H) :
    tOp (rI0 fun i j => V.int (i + j)) (tOp (rIxL K) (tOp (rIxL K) (tVar i10) (tOp (rIxT K) (tVar i9) (tC (V.int 0)))) (tOp (rIxT K) (tVar i9) (tC (V.int 1)))) (tDGet (tVar i6) (tVar i9)) σ H Q := by
  have hb := hS.bd p hp
  have e2 := DGet.t (k := [.inl p.1, .inl p.2.1]) hD hy
  rw [valV_mem hS.dif hp] at e2
  obtain ⟨u, hu⟩ := Int.eq_ofNat_of_zero_le hb.1
  obtain ⟨v, hv⟩ := Int.eq_ofNat_of_zero_le (show 0 ≤ p.2.1 by omega)
  obtain ⟨rs, g1, g2, g3⟩ := hG.row
  obtain ⟨r, gr1, gr2⟩ := g3 u (by omega)
  have i0 : atI [V.int p.1, V.int p.2.1] 0 = some (.int p.1) := atI_nat (j := 0) rfl
  have i1 : atI [V.int p.1, V.int p.2.1] 1 = some (.int p.2.1) := atI_nat (j := 1) rfl
  have c0 : atI (rs.map V.ref) p.1 = some (.ref r) := by rw [hu]; exact atI_nat gr1
  have c1 : atI (((List.range n).map (g u)).map V.int) p.2.1 = some (.int (f p.1 p.2.1)) := by rw [hu, hv, ← hf u v (by omega)]; exact atI_nat (range_at (show v < n by omega))
  exact ⟨_, h10, _, h9, y, _, 0, _, rfl, rfl, .inl (.inl hy), i0, G, _, p.1, _, rfl, rfl, .inl (.inl g1), c0, _, h9, y, _, 1, _, rfl, rfl, .inl (.inl hy), i1, r, _, p.2.1, _, rfl, rfl, .inl (.inl gr2), c1, _, h6, _, h9, D, _, rfl, e2, _, _, rfl, rfl, q⟩
end T77
/-! What is due; the pairs chosen. -/
namespace T77
open PySem PySem.Spec PyProof.Rows L2 L2H Wk Vb StX RZ HT
def dueOf (n : Nat) (am : Int → Int → Int) (Z T' : List T3) : Due := match Z.filter (lowB am) with
  | p :: _ => .few p.1 p.2.1
  | [] => if Z.any (highB am) = true then .many else .told n T'
theorem due_few {n : Nat} {am : Int → Int → Int} {Z T' : List T3} {p : T3} (h : (Z.filter (lowB am)).head? = some p) : dueOf n am Z T' = .few p.1 p.2.1 := by
  unfold dueOf
  cases e : Z.filter (lowB am) with
  | nil => rw [e] at h; cases h
  | cons a l => rw [e] at h; cases h; rfl
theorem due_many {n : Nat} {am : Int → Int → Int} {Z T' : List T3} (h : Z.filter (lowB am) = []) (g : ∃ p ∈ Z, highB am p = true) : dueOf n am Z T' = .many := by
  unfold dueOf
  rw [h]
  exact if_pos (List.any_eq_true.mpr g)
theorem due_told {n : Nat} {am : Int → Int → Int} {Z T' : List T3} (h : Z.filter (lowB am) = []) (g : ∀ p ∈ Z, highB am p = false) : dueOf n am Z T' = .told n T' := by
  unfold dueOf
  rw [h]
  refine if_neg fun z => ?_
  obtain ⟨p, hp, e⟩ := List.any_eq_true.mp z
  rw [g p hp] at e
  cases e
theorem due_am {n : Nat} {am am' : Int → Int → Int} {Z T' : List T3} (h1 : Z.filter (lowB am) = Z.filter (lowB am')) (h2 : Z.filter (highB am) = Z.filter (highB am')) : dueOf n am Z T' = dueOf n am' Z T' := by
  have e : Z.any (highB am) = Z.any (highB am') := by
    rw [Bool.eq_iff_iff, List.any_eq_true, List.any_eq_true]
    exact ⟨fun ⟨p, hp, k⟩ => ⟨p, hp, (List.mem_filter.mp (h2 ▸ List.mem_filter.mpr ⟨hp, k⟩)).2⟩, fun ⟨p, hp, k⟩ => ⟨p, hp, (List.mem_filter.mp (h2.symm ▸ List.mem_filter.mpr ⟨hp, k⟩)).2⟩⟩
  unfold dueOf
  rw [h1, e]
theorem tag_few {u v : Int} : decide (V.str (Due.few u v).tag = V.str "told") = false := decide_eq_false (by intro h; injection h with h; exact absurd h (show ¬ (("TooFew" : Str) = "told") by decide +kernel))
theorem tag_many : decide (V.str Due.many.tag = V.str "told") = false := decide_eq_false (by intro h; injection h with h; exact absurd h (show ¬ (("TooMany" : Str) = "told") by decide +kernel))
theorem tag_told {n : Nat} {T : List T3} : decide (V.str (Due.told n T).tag = V.str "told") = true := decide_eq_true rfl
theorem told_inv {n m : Nat} {am : Int → Int → Int} {Z T' T2 : List T3} (h : dueOf n am Z T' = .told m T2) : Z.filter (lowB am) = [] ∧ ∀ p ∈ Z, highB am p = false := by
  unfold dueOf at h
  cases e : Z.filter (lowB am) with
  | cons p l => rw [e] at h; cases h
  | nil =>
    rw [e] at h
    refine ⟨rfl, fun p hp => ?_⟩
    cases g : highB am p with
    | false => rfl
    | true =>
      dsimp only at h
      rw [if_pos (List.any_eq_true.mpr ⟨p, hp, g⟩)] at h
      cases h
theorem due_fine {n : Nat} {am : Int → Int → Int} {Z T' : List T3} (hn : n ≤ 60) (hb : ∀ p ∈ Z, 0 ≤ p.1 ∧ p.1 < p.2.1 ∧ p.2.1 < (n : Int)) : (dueOf n am Z T').fine := by
  unfold dueOf
  cases e : Z.filter (lowB am) with
  | nil => dsimp only; split <;> exact True.intro
  | cons p l =>
    have hp : p ∈ Z := (List.mem_filter.mp (show p ∈ Z.filter (lowB am) by rw [e]; exact List.mem_cons_self)).1
    have := hb p hp
    exact ⟨⟨by omega, by omega⟩, by omega, by omega⟩
/-- asked of the program: told what is due -/
theorem told_due {K : PySem.W.Frag} {C : Addr} {H : Hp} {w W : Addr} {n : Nat} {am : Int → Int → Int} {T S Z T' : List T3} {ws : List Int} {s : Int} {Q : VK} {E : XK} (V1 : WA K C H w n am T) (hTl : T.length ≤ 1900) (hW : SqL K H W (ws.map V.int)) (hwk : Walk n ws) (hs : s = 1 ∨ s = -1)
    (hSe : sumP (pas s ws) = S) (hZp : Z.Perm S) (hZo : Z.Pairwise lt2) (ht : Z.filter (lowB am) = [] → TiesOf (n : Int) (fun u v => am u v + amt S u v) T') (q : ∀ H' R, Same H H' → DueAt K H' R (dueOf n am Z T') → Q (.ref R) H') : spTold K C [.ref w, .ref W, .int s] H Q E := by
  subst hSe
  refine ⟨w, W, n, am, T, Z, ws, s, rfl, V1, hTl, hW, hwk, hs, hZp, hZo, fun p hp H' R sH hR => ?_, fun h1 h2 H' R sH hR => ?_, fun h1 h2 H' R R2 t ys T2 sH hR hR2 hy hT hto => ?_⟩
  · exact q H' R sH (by rw [due_few hp]; exact hR)
  · exact q H' R sH (by rw [due_many h1 h2]; exact hR)
  · have e := hto.eq (ht h1) fun u v => rfl
    subst e
    exact q H' R sH (by rw [due_told h1 h2]; exact ⟨R2, t, ys, hR, hR2, hy, hT⟩)
theorem told_step {K : PySem.W.Frag} {C : Addr} {H : Hp} {w W : Addr} {n : Nat} {am : Int → Int → Int} {T S Z T' : List T3} {ws : List Int} {s : Int} {Q : VK} {E : XK} {σ : L2.St} {i1 i2 i3 : Nat} (g1 : σ[i1]? = some (some (.ref w))) (g2 : σ[i2]? = some (some (.ref W))) (g3 : σ[i3]? = some (some (.int s)))
    (V1 : WA K C H w n am T) (hTl : T.length ≤ 1900) (hW : SqL K H W (ws.map V.int)) (hwk : Walk n ws) (hs : s = 1 ∨ s = -1)
    (hSe : sumP (pas s ws) = S) (hZp : Z.Perm S) (hZo : Z.Pairwise lt2) (ht : Z.filter (lowB am) = [] → TiesOf (n : Int) (fun u v => am u v + amt S u v) T') (q : ∀ H' R, Same H H' → DueAt K H' R (dueOf n am Z T') → Q (.ref R) H') :
    tCall (spTold K C) [] E (tCons (tVar i1) (tCons (tVar i2) (tCons (tVar i3) tNil))) σ H Q :=
  ⟨_, g1, _, g2, _, g3, (told_due V1 hTl hW hwk hs hSe hZp hZo ht q : spTold K C [.ref w, .ref W, .int s] H Q E)⟩
theorem tsort {K0 : PySem.W.Frag} {H : Hp} {σ : L2.St} {i : Nat} {D : Addr} {S Z : List T3} {n : Nat} {Q : VK} (h6 : σ[i]? = some (some (.ref D))) (hD : H D = some (.dT (S.map ent))) (hS : SumW n S) (hn : n ≤ 60) (hZp : Z.Perm S) (hZo : Z.Pairwise lt2)
    (q : ∀ H' p rs, Same H H' → New H p → H' p = some (.lst (rs.map V.ref)) → Prs H' rs Z → Q (.ref p) H') : tCB (rSortDA 2 61) (tCons (tVar i) tNil) σ H Q :=
  ⟨_, h6, (sortD_step (K := K0) hD hS hn hZp hZo q : rSortDA 2 61 [.ref D] H Q)⟩
/-- [pair for pair in sorted(sums) if ..] -/
theorem selC {K : PySem.W.Frag} {H1 : Hp} {Qd : Hp → Prop} {p M : Addr} {rs : List Addr} {S Z : List T3} {n : Nat} {tt : TT} {f : T3 → Bool} {x0 x1 x2 x3 x4 x5 x6 x7 x8 x9 x10 x11 x12 x13 x14 x15 x16 x17 x18 x19 : Option V}
    (hS : SumW n S) (hZp : Z.Perm S) (hp : H1 p = some (.lst (rs.map V.ref))) (hr : Prs H1 rs Z) (nM : New H1 M)
    (ht : ∀ p ∈ S, ∀ H' y (Qt : Bool → Hp → Prop), Same H1 H' → H' y = some (.tup [.int p.1, .int p.2.1]) → Qt (f p) H' → tt [x0, x1, x2, x3, x4, x5, x6, x7, x8, some (.ref y), x10, x11, x12, x13, x14, x15, x16, x17, x18, x19] H' Qt)
    (q : ∀ H' rs, Same H1 H' → H' M = some (.lst (rs.map V.ref)) → Prs H' rs (Z.filter f) → Qd H') :
    ∃ W : Nat → Nat → Hp → Prop, (∃ m, W 0 m (upd H1 M (.lst []))) ∧ ∀ i m H, W i m H →
      ((Itl K p).stop i H ∧ Qd H) ∨ ((Itl K p).go i H ∧ ∃ Nx : Hp → Prop, (∀ H', Nx H' → ∃ m', m' < m ∧ W (i + 1) m' H') ∧ ∀ x H', (Itl K p).yld i H x H' → gName 9 x (wipe [x0, x1, x2, x3, x4, x5, x6, x7, x8, x9, x10, x11, x12, x13, x14, x15, x16, x17, x18, x19] [9]) H' fun σ2 H2 => wipe σ2 [9] = wipe [x0, x1, x2, x3, x4, x5, x6, x7, x8, x9, x10, x11, x12, x13, x14, x15, x16, x17, x18, x19] [9] ∧ tt σ2 H2 fun b H3 =>
        if b = true then tVar 9 σ2 H3 fun y H4 => ∃ acc, H4 M = some (.lst acc) ∧ acc.length < sizeLine ∧ Nx (upd H4 M (.lst (acc ++ [y]))) else Nx H3) := by
  have hrl := hr.length
  refine lc_list (K := K) (a := p) (xs := rs.map V.ref) (fun j H6 => Same H1 H6 ∧ ∃ zs, H6 M = some (.lst (zs.map V.ref)) ∧ Prs H6 zs ((Z.take j).filter f) ∧ zs.length ≤ j) ⟨same_new nM, [], upd_same, True.intro, Nat.le_refl _⟩ (fun j H6 _ h => .inl (.inl (h.1 _ _ hp))) ?_ ?_
  · rintro j x H6 hx ⟨m1, zs, m2, m3, m4⟩
    rw [List.getElem?_map] at hx
    obtain ⟨y, hy, rfl⟩ := Option.map_eq_some_iff.mp hx
    obtain ⟨r, hr', hyt⟩ := hr.get hy
    have hrS : r ∈ S := hZp.mem_iff.mp (List.mem_of_getElem? hr')
    have hj := (List.getElem?_eq_some_iff.mp hr').1
    have hzl : Z.length ≤ 14 := by rw [hZp.length_eq]; exact hS.len
    replace hyt := m1 _ _ hyt
    refine ⟨rfl, ht r hrS H6 y _ m1 hyt ?_⟩
    cases e : f r with
    | true =>
      refine ⟨_, rfl, _, m2, by rw [List.length_map, sizeLine_eq]; omega, over nM m1, zs ++ [y], by rw [upd_same, List.map_append]; rfl, ?_, by rw [List.length_append, List.length_singleton]; omega⟩
      rw [List.take_add_one, hr', List.filter_append, show (Option.toList (some r)) = [r] from rfl, List.filter_cons_of_pos e]
      have yM : y ≠ M := fun z => by rw [z, m2] at hyt; cases hyt
      have kp : ∀ {qs : List Addr} {l : List T3}, Prs H6 qs l → Prs (upd H6 M (.lst (zs.map V.ref ++ [.ref y]))) qs l := fun {qs l} h => h.but (x0 := 0) m2 (But.upd _ _ _)
      exact (kp m3).append (kp ⟨hyt, True.intro⟩)
    | false =>
      refine ⟨m1, zs, m2, ?_, by omega⟩
      rw [List.take_add_one, hr', List.filter_append, show (Option.toList (some r)) = [r] from rfl, List.filter_cons_of_neg (by rw [e]; decide), List.filter_nil, List.append_nil]
      exact m3
  rintro H6 ⟨m1, zs, m2, m3, m4⟩
  rw [List.length_map, hrl, List.take_length] at m3
  exact q H6 zs m1 m2 m3
theorem Trs.bdS {K : PySem.W.Frag} {H : Hp} {B S : Int} {xs : List V} {ps : List T3} (h : Trs K H xs ps) (hb : ∀ p ∈ ps, TS.Bd B (shI S [p.1, p.2.1, p.2.2])) : ∀ x ∈ xs, ∃ ns, TupI K H x ns ∧ ns.length = 3 ∧ TS.Bd B (shI S ns) := fun x hx => by
  obtain ⟨i, hi, e⟩ := List.mem_iff_getElem.mp hx
  obtain ⟨p, hp, t⟩ := h.get (by rw [List.getElem?_eq_getElem hi, e])
  exact ⟨_, t.tupI, rfl, hb p (List.mem_of_getElem? hp)⟩
theorem Made.bS {n : Nat} {S Z B M : List T3} (h : Made n S Z B M) (hn : n ≤ 60) : ∀ p ∈ chg (amt B) Z ++ M, TS.Bd 2000000000 (shI 100 [p.1, p.2.1, p.2.2]) := fun p hp m hm => by
  have := h.bm p hp
  unfold shI at hm
  simp only [List.map_cons, List.map_nil, List.mem_cons, List.not_mem_nil, or_false] at hm
  omega
end T77
/-! The law. -/
namespace T77
open PySem PySem.Spec PyProof.Rows L2 L2H Wk Vb StX RZ HT
abbrev sLaw : Stmt := top 37
theorem scLaw : FnScope ["_law_script", "_law_bag_here", "_law_trip", "_law_size", "_law_walk_here", "_law_sign", "_law_sums_here", "_law_ties", "_law_bundles", "_law_pair", "_law_grid_here", "_law_low", "_law_high", "_law_made", "_law_more", "_law_due", "_law_tie", "_law_web", "_law_kept", "_law_asking"] ["_law_script"] (defScope sLaw) := ⟨rfl, rfl, rfl, by decide +kernel, rfl, by decide +kernel, by decide +kernel⟩
theorem never {X : Cx} {P : Program} {w : World} : Passes (L2N.CX P w) X E0 := fun _ _ _ _ _ _ _ h => by
  obtain ⟨_, _, _, _, _, _, _, _, _, _, _, _, h⟩ := h
  exact h.elim
def spLaw (K : PySem.W.Frag) : Sp := fun vs H Q _ => ∃ (a : Addr) (ns : List Int), vs = [.ref a] ∧ SqL K H a (ns.map V.int) ∧ ns.length ≤ 63 ∧ ∀ H', Q (.bl true) H'
section
variable {P : Program} {w : World} {K : PySem.W.Frag} {mg : Str → Option Value} {base : Heap} {C f : Addr} {fd : FuncData}
theorem ok_law {cT cF fe fo : Addr} {de dq : FuncData} (F : Fun K "law" "law" sLaw f fd) (B : Bl mg) (T : TxtW K mg C) (MWeb : MkWeb P w K mg base C) (EQ : EqW P w K mg base C 10 fe de)
    (o__law_bag : Own P w K mg base CX0 1 "_law_bag" ["_law_script"] (spBag K)) (o__law_take : Own P w K mg base CX0 1 "_law_take" ["_law_bag_here", "_law_many"] spTake) (o__law_one : Own P w K mg base CX0 2 "_law_one" ["_law_bag_here", "_law_menu"] spOne)
    (o__law_walk : Own P w K mg base CX0 3 "_law_walk" ["_law_bag_here", "_law_size"] spWalk) (o__law_sums : Own P w K mg base CX0 1 "_law_sums" ["_law_walk_here", "_law_sign"] (spSums K)) (o__law_grid : Own P w K mg base CX0 1 "_law_grid" ["_law_size", "_law_ties"] (spGrid K))
    (o__law_beside : Own P w K mg base CX0 3 "_law_beside" ["_law_bag_here", "_law_size", "_law_sums_here"] (spBes K)) (o_turned : Own P w K mg base (L2N.CX P w) 10 "turned" ["web", "walk", "sign"] (spTurned K C cT cF))
    (G__law_told : FnC P w K mg base CX0 11 fo dq ["_law_web", "_law_walk_here", "_law_sign"] (spTold K C)) (g__law_told : mg "_law_told" = some (.ref fo)) (k__law_told : PySem.W.keepIn K (.ref fo) = true) (b__law_told : Binds K dq ["_law_web", "_law_walk_here", "_law_sign"] []) :
    FnC P w K mg base CX0 12 f fd ["_law_script"] (spLaw K) := by
  have G_eq := EQ.Q
  have B_eq := EQ.bQ
  have N1_eq := EQ.ne
  have N2_eq := EQ.ob
  have S_eq := EQ.sQ
  have I_eq := EQ.iQ
  refine okC F scLaw (fun vs H Q E h => ?_) (fun cdv A outer s H vs Q E hr hgd h => ?_)
  · obtain ⟨a, ns, rfl, _⟩ := h
    rfl
  · obtain ⟨a, ns, rfl, ha, hn, q⟩ := h
    have hu := hu_of hr
    refine ⟨_, (pss_cons (ps_set (i := 1) scLaw.nd rfl (Or.inl rfl) (pe_own o__law_bag (hr.mono (by decide)) pass0 (pa_cons (pv 0) pa_nil)))
    (pss_cons (ps_for PassesOwn.never rfl (pi_range1 rfl B.m_range (pa_cons pe_int pa_nil)) (pg_name (i := 2) scLaw.nd rfl (Or.inl rfl))
      (pss_cons (ps_set (i := 3) scLaw.nd rfl (Or.inl rfl) (pe_own o__law_one (hr.mono (by decide)) pass0 (pa_cons (pv 1) (pa_cons (pe_lst (pa_cons pe_int (pa_cons pe_int (pa_cons pe_int (pa_cons pe_int (pa_cons pe_int pa_nil)))))) pa_nil))))
      (pss_cons (ps_par (i := 4) (j := 5) (by rfl) scLaw.nd rfl rfl (by decide) rfl rfl (pa_cons (pe_own o__law_walk (hr.mono (by decide)) pass0 (pa_cons (pv 1) (pa_cons (pv 3) pa_nil))) (pa_cons (pe_ix ix_list (pe_lst (pa_cons pe_int (pa_cons (pe_un un_neg pe_int) pa_nil))) (pe_own o__law_take (hr.mono (by decide)) pass0 (pa_cons (pv 1) (pa_cons pe_int pa_nil))) (fun _ _ => rfl)) pa_nil)) (by rfl))
      (pss_cons (ps_asg (pe_tup (pa_cons (pe_own o__law_sums (hr.mono (by decide)) pass0 (pa_cons (pv 4) (pa_cons (pv 5) pa_nil))) (pa_cons (pe_lst pa_nil) pa_nil))) (pg_tup (by rfl) (pgs_cons (pg_name (i := 6) scLaw.nd rfl (Or.inr rfl)) (pgs_cons (pg_name (i := 7) scLaw.nd rfl (Or.inl rfl)) pgs_nil))))
      (pss_cons (ps_set (i := 8) scLaw.nd rfl (Or.inl rfl) (pe_own o__law_one (hr.mono (by decide)) pass0 (pa_cons (pv 1) (pa_cons (pe_lst (pa_cons (pe_lst (pa_cons pe_int (pa_cons pe_int (pa_cons pe_int pa_nil)))) (pa_cons (pe_lst (pa_cons pe_int (pa_cons pe_int pa_nil))) (pa_cons (pe_lst (pa_cons pe_int (pa_cons pe_int (pa_cons pe_int pa_nil)))) (pa_cons (pe_lst (pa_cons pe_int (pa_cons pe_int (pa_cons pe_int pa_nil)))) pa_nil))))) pa_nil))))
      (pss_cons (ps_for PassesOwn.never rfl (pi_list (pe_callB (call_sortedTDA (d := 2) (B := 61) (by decide) rfl) (by rfl) B.m_sorted (by decide +kernel) (pa_cons (pv 6) pa_nil))) (pg_name (i := 9) scLaw.nd rfl (Or.inl rfl))
        (pss_one (ps_expr (pe_bm PySem.F.plainAttrs_list PySem.F.slot_list_append PySem.F.type_list_append mt_append (pv 7) (pa_cons (pe_op op_catW (pv 9) (pe_tup (pa_cons (pe_own o__law_one (hr.mono (by decide)) pass0 (pa_cons (pv 1) (pa_cons (pv 8) pa_nil))) pa_nil))) pa_nil)))))
      (pss_cons (ps_set (i := 10) scLaw.nd rfl (Or.inr rfl) (pe_own o__law_grid (hr.mono (by decide)) pass0 (pa_cons (pv 3) (pa_cons (pv 7) pa_nil))))
      (pss_cons (ps_setLc (i := 11) (own := [("_law_pair", 9)]) (g := (gName 9)) rfl scLaw.nd rfl rfl (sw_true rfl rfl rfl (by decide +kernel)) (pi_list (pe_callB (call_sortedTDA (d := 2) (B := 61) (by decide) rfl) (by rfl) B.m_sorted (by decide +kernel) (pa_cons (pv 6) pa_nil))) (blkOk_by (N := ["_law_script", "_law_bag_here", "_law_trip", "_law_size", "_law_walk_here", "_law_sign", "_law_sums_here", "_law_ties", "_law_bundles", "_law_pair", "_law_grid_here", "_law_low", "_law_high", "_law_made", "_law_more", "_law_due", "_law_tie", "_law_web", "_law_kept", "_law_asking"]) (sc := defScope sLaw) (by decide +kernel)) (fun _ _ _ _ _ => pg_name (i := 9) scLaw.nd rfl (Or.inl rfl)) (fun _ _ _ _ _ => pts_one (pt_cmpR op_lt (pe_op op_add (pe_ix (r := rIxL K) ix_list (pe_ix (r := rIxL K) ix_list (pv 10) (pe_ix (r := rIxT K) ix_tup (pv 9) pe_int (fun _ _ => rfl)) (fun _ _ => rfl)) (pe_ix (r := rIxT K) ix_tup (pv 9) pe_int (fun _ _ => rfl)) (fun _ _ => rfl)) (pe_dget hu (pv 6) (pv 9) (fun _ _ => rfl))) pe_int (nomark _))) (fun _ _ _ _ _ => (pv 9)))
      (pss_cons (ps_setLc (i := 12) (own := [("_law_pair", 9)]) (g := (gName 9)) rfl scLaw.nd rfl rfl (sw_true rfl rfl rfl (by decide +kernel)) (pi_list (pe_callB (call_sortedTDA (d := 2) (B := 61) (by decide) rfl) (by rfl) B.m_sorted (by decide +kernel) (pa_cons (pv 6) pa_nil))) (blkOk_by (N := ["_law_script", "_law_bag_here", "_law_trip", "_law_size", "_law_walk_here", "_law_sign", "_law_sums_here", "_law_ties", "_law_bundles", "_law_pair", "_law_grid_here", "_law_low", "_law_high", "_law_made", "_law_more", "_law_due", "_law_tie", "_law_web", "_law_kept", "_law_asking"]) (sc := defScope sLaw) (by decide +kernel)) (fun _ _ _ _ _ => pg_name (i := 9) scLaw.nd rfl (Or.inl rfl)) (fun _ _ _ _ _ => pts_one (pt_cmpR op_gt (pe_op op_add (pe_ix (r := rIxL K) ix_list (pe_ix (r := rIxL K) ix_list (pv 10) (pe_ix (r := rIxT K) ix_tup (pv 9) pe_int (fun _ _ => rfl)) (fun _ _ => rfl)) (pe_ix (r := rIxT K) ix_tup (pv 9) pe_int (fun _ _ => rfl)) (fun _ _ => rfl)) (pe_dget hu (pv 6) (pv 9) (fun _ _ => rfl))) pe_int (nomark _))) (fun _ _ _ _ _ => (pv 9)))
      (pss_cons (ps_setLc (i := 13) (own := [("_law_pair", 9)]) (g := (gName 9)) (tt := tYes) rfl scLaw.nd rfl rfl (sw_true rfl rfl rfl (by decide +kernel)) (pi_list (pe_callB (call_sortedTDA (d := 2) (B := 61) (by decide) rfl) (by rfl) B.m_sorted (by decide +kernel) (pa_cons (pv 6) pa_nil))) (blkOk_by (N := ["_law_script", "_law_bag_here", "_law_trip", "_law_size", "_law_walk_here", "_law_sign", "_law_sums_here", "_law_ties", "_law_bundles", "_law_pair", "_law_grid_here", "_law_low", "_law_high", "_law_made", "_law_more", "_law_due", "_law_tie", "_law_web", "_law_kept", "_law_asking"]) (sc := defScope sLaw) (by decide +kernel)) (fun _ _ _ _ _ => pg_name (i := 9) scLaw.nd rfl (Or.inl rfl)) (fun _ _ _ _ _ => pts_nil) (fun _ _ _ _ _ => (pe_op op_catW (pv 9) (pe_tup (pa_cons (pe_op op_add (pe_ix (r := rIxL K) ix_list (pe_ix (r := rIxL K) ix_list (pv 10) (pe_ix (r := rIxT K) ix_tup (pv 9) pe_int (fun _ _ => rfl)) (fun _ _ => rfl)) (pe_ix (r := rIxT K) ix_tup (pv 9) pe_int (fun _ _ => rfl)) (fun _ _ => rfl)) (pe_dget hu (pv 6) (pv 9) (fun _ _ => rfl))) pa_nil)))))
      (pss_cons (ps_set (i := 14) scLaw.nd rfl (Or.inl rfl) (pe_own o__law_beside (hr.mono (by decide)) pass0 (pa_cons (pv 1) (pa_cons (pv 3) (pa_cons (pv 6) pa_nil)))))
      (pss_cons (ps_par (i := 13) (j := 7) (by rfl) scLaw.nd rfl rfl (by decide) rfl rfl (pa_cons (pe_callB (cr_sortTS (d := 3) (B := 2000000000) (S := 100) (by decide)) (by rfl) B.m_sorted (by decide +kernel) (pa_cons (pe_op op_cat (pv 13) (pv 14)) pa_nil)) (pa_cons (pe_op op_cat (pv 14) (pv 7)) pa_nil)) (by rfl))
      (pss_cons (ps_set (i := 15) scLaw.nd rfl (Or.inl rfl) (pe_tup (pa_cons pe_str (pa_cons (pe_tup (pa_cons (pv 3) (pa_cons (pe_callTy call_tuple_of (by rfl) B.m_tuple (by decide +kernel) (pa_cons (pe_lc (own := [("_law_tie", 16)]) (g := (gName 16)) rfl scLaw.nd (pi_list (pv 13)) (blkOk_by (N := ["_law_script", "_law_bag_here", "_law_trip", "_law_size", "_law_walk_here", "_law_sign", "_law_sums_here", "_law_ties", "_law_bundles", "_law_pair", "_law_grid_here", "_law_low", "_law_high", "_law_made", "_law_more", "_law_due", "_law_tie", "_law_web", "_law_kept", "_law_asking"]) (sc := defScope sLaw) (by decide +kernel)) (fun _ _ _ _ _ => pg_name (i := 16) scLaw.nd rfl (Or.inl rfl)) (fun _ _ _ _ _ => pts_one (pt_cmpR op_gt (pe_ix (r := rIxT K) ix_tup (pv 16) pe_int (fun _ _ => rfl)) pe_int (nomark _))) (fun _ _ _ _ _ => (pv 16))) pa_nil)) pa_nil))) pa_nil))))
      (C8.pss_cut (ps_if (pt_cmpR (op_neD hr.units) (pv 11) (pe_lst pa_nil) (nomark _))
        (pss_one (ps_set (i := 15) scLaw.nd rfl (Or.inl rfl) (pe_tup (pa_cons pe_str (pa_cons (pe_callB (r := rReprT K) (call_reprT rfl hgd hr.units) (by rfl) B.m_repr (by decide +kernel) (pa_cons (pe_ix ix_list (pv 11) pe_int (fun _ _ => rfl)) pa_nil)) pa_nil)))))
        (pss_one (ps_if (pt_cmpR (op_neD hr.units) (pv 12) (pe_lst pa_nil) (nomark _))
          (pss_one (ps_set (i := 15) scLaw.nd rfl (Or.inl rfl) (pe_tup (pa_cons pe_str (pa_cons pe_str pa_nil)))))
          pss_nil)))
      (pss_cons (ps_par (i := 17) (j := 18) (by rfl) scLaw.nd rfl rfl (by decide) rfl rfl (pa_cons (pe_Web MWeb (hr.mono (by decide)) (pa_cons (pv 3) (pa_cons (pv 7) pa_nil))) (pa_cons (pe_callTy call_list_of (by rfl) B.m_list (by decide +kernel) (pa_cons (pv 4) pa_nil)) pa_nil)) (by rfl))
      (pss_cons (ps_for PassesOwn.never rfl (pi_range1 rfl B.m_range (pa_cons pe_int pa_nil)) (pg_name (i := 19) scLaw.nd rfl (Or.inl rfl))
        (pss_one (ps_if (PW.pt (pw_or (pt_cmpR (op_neD hr.units) (pe_callC G__law_told (hr.mono (by decide)) hgd (by rfl) g__law_told k__law_told b__law_told (pa_cons (pv 17) (pa_cons (pv 4) (pa_cons (pv 5) pa_nil)))) (pv 15) (nomark _)) (pw_or1 (pt_cmpR (op_neD hr.units) (pv 4) (pv 18) (nomark _)))))
          (pss_one (ps_ret pe_bl))
          pss_nil)))
      (pss_one (ps_if (PW.pt (pw_and (pt_cmpR op_eq (pe_ix ix_tup (pv 15) pe_int (fun _ _ => rfl)) pe_str (nomark _)) (pw_and1 (pt_cmpR (op_neO G_eq (hr.mono (by decide)) B_eq pass0 N1_eq N2_eq S_eq I_eq) (pe_own o_turned (hr.mono (by decide)) never (pa_cons (pe_own o_turned (hr.mono (by decide)) never (pa_cons (pv 17) (pa_cons (pv 4) (pa_cons (pv 5) pa_nil)))) (pa_cons (pv 4) (pa_cons (pe_un un_neg (pv 5)) pa_nil)))) (pv 17) (nomark _)))))
        (pss_one (ps_ret pe_bl))
        pss_nil))))))))))))))))))
    (pss_one (ps_ret pe_bl)))), ?_⟩
    refine ⟨_, rfl, a, ns, rfl, ha, hn, fun H1 b l s1 nb B1 => ?_⟩
    refine ⟨4, rfl, by decide, by decide, ?_⟩
    refine for_range (n := 4) (fun i σ H2 => (∃ v2 v3 v4 v5 v6 v7 v8 v9 v10 v11 v12 v13 v14 v15 v16 v17 v18 v19, σ = [some (.ref a), some (.ref b), v2, v3, v4, v5, v6, v7, v8, v9, v10, v11, v12, v13, v14, v15, v16, v17, v18, v19]) ∧ BagAt H2 b l (i * 100)) ⟨⟨_, _, _, _, _, _, _, _, _, _, _, _, _, _, _, _, _, _, rfl⟩, B1⟩ ?_ ?_
    rotate_left
    · rintro σ H2 ⟨⟨v2, v3, v4, v5, v6, v7, v8, v9, v10, v11, v12, v13, v14, v15, v16, v17, v18, v19, rfl⟩, B2⟩
      exact q _
    rintro i σ H2 hi ⟨⟨v2, v3, v4, v5, v6, v7, v8, v9, v10, v11, v12, v13, v14, v15, v16, v17, v18, v19, rfl⟩, B2⟩
    dsimp only
    -- the size
    refine ⟨_, rfl, (by show 5 ≤ sizeLine; decide), fun M nM => ?_⟩
    replace nM : New H2 M := nM
    have sM := same_new (o := .lst [.int 3, .int 4, .int 2, .int 5, .int 60]) nM
    have Mb : M ≠ b := Ne.symm (ne_new nM B2.in'.1.choose_spec)
    refine ⟨b, l, M, _, _, rfl, B2.same sM, by omega, Mb, upd_same, (by show 1 ≤ 5; decide), (by show 5 ≤ 100; decide), fun H3 j x B3 b3 hj => ?_⟩
    obtain ⟨n, hn5, rfl⟩ : ∃ n : Nat, ((2 ≤ n ∧ n ≤ 5) ∨ n = 60) ∧ x = .int (n : Int) := by
      match j, hj with
      | 0, e => cases e; exact ⟨3, by decide, rfl⟩
      | 1, e => cases e; exact ⟨4, by decide, rfl⟩
      | 2, e => cases e; exact ⟨2, by decide, rfl⟩
      | 3, e => cases e; exact ⟨5, by decide, rfl⟩
      | 4, e => cases e; exact ⟨60, by decide, rfl⟩
    clear hj b3 sM nM Mb B2
    have hn2 : 2 ≤ n := by omega
    have hn60 : n ≤ 60 := by omega
    -- the walk
    refine ⟨_, rfl, _, rfl, b, l, _, n, rfl, B3, by omega, hn5, fun H4 W ws B4 b4 nW hW hwk => ?_⟩
    have Wb : W ≠ b := Ne.symm (ne_new nW B3.in'.1.choose_spec)
    refine ⟨1, rfl, (by show 2 ≤ sizeLine; decide), fun M nM => ?_⟩
    replace nM : New H4 M := nM
    have sM := same_new (o := .lst [.int 1, .int (-1)]) nM
    have Mb : M ≠ b := Ne.symm (ne_new nM B4.in'.1.choose_spec)
    refine ⟨_, rfl, b, l, 2, _, rfl, by decide, by decide, B4.same sM, by omega, fun t H5 t0 t1 B5 b5 => ?_⟩
    obtain ⟨sg, hs, hat⟩ : ∃ sg : Int, (sg = 1 ∨ sg = -1) ∧ atI [V.int 1, V.int (-1)] t = some (.int sg) := by
      have : t = 0 ∨ t = 1 := by omega
      rcases this with rfl | rfl
      · exact ⟨1, .inl rfl, atI_nat (j := 0) rfl⟩
      · exact ⟨-1, .inr rfl, atI_nat (j := 1) rfl⟩
    have hW5 := b5 _ _ Wb (sM _ _ hW)
    refine ⟨M, _, t, _, rfl, rfl, .inl (.inl (b5 _ _ Mb upd_same)), hat, _, _, rfl, ?_⟩
    clear hat b5 t0 t1 hW sM nM Mb b4 B4 nW B3
    -- the sums
    refine ⟨_, rfl, _, rfl, W, n, ws, sg, rfl, .inl (.inl hW5), hwk, hs, fun H6 D s6 nD hD => ?_⟩
    have Db : D ≠ b := Ne.symm (ne_new nD B5.in'.1.choose_spec)
    have Dl : D ≠ l := Ne.symm (ne_new nD B5.in'.2.choose_spec)
    have WD : W ≠ D := ne_new nD hW5
    have hW6 := s6 _ _ hW5
    have B6 := B5.same s6
    have hS : SumW n (sumP (pas sg ws)) := by
      have := sumW_of hwk hs (k := (pas sg ws).length)
      rwa [List.take_length] at this
    generalize hSe : sumP (pas sg ws) = S at hD hS
    clear hW5 s6 nD B5
    refine ⟨by show 0 ≤ sizeLine; decide, fun A nA => ⟨by show 2 ≤ sizeLine; decide, fun U nU => ?_⟩⟩
    replace nA : New H6 A := nA
    have Ab : A ≠ b := Ne.symm (ne_new nA B6.in'.1.choose_spec)
    have Al : A ≠ l := Ne.symm (ne_new nA B6.in'.2.choose_spec)
    have WA' : W ≠ A := ne_new nA hW6
    have DA : D ≠ A := ne_new nA hD
    have sA := same_new (o := .lst []) nA
    replace nU : New (upd H6 A (.lst [])) U := nU
    have sU := same_new (o := .tup [V.ref D, .ref A]) nU
    have s67 := sA.trans sU
    refine ⟨U, _, rfl, .inl (.inl upd_same), rfl, _, _, rfl, _, _, rfl, rfl, ?_⟩
    have hA7 := sU _ _ (upd_same (H := H6) (a := A) (o := .lst []))
    have hW7 := s67 _ _ hW6
    have hD7 := s67 _ _ hD
    have B7 := B6.same s67
    generalize (upd (upd H6 A (.lst [])) U (.tup [V.ref D, .ref A])) = H7 at hA7 hW7 hD7 B7 ⊢
    clear s67 sU nU sA nA hW6 hD B6
    -- the bundles
    refine ⟨_, rfl, (by show 3 ≤ sizeLine; decide), fun M0 n0 => ⟨(by show 2 ≤ sizeLine; decide), fun M1 n1 => ⟨(by show 3 ≤ sizeLine; decide), fun M2 n2 => ⟨(by show 3 ≤ sizeLine; decide), fun M3 n3 => ⟨(by show 4 ≤ sizeLine; decide), fun M nM => ?_⟩⟩⟩⟩⟩
    have z0 := same_new (o := .lst [V.int 0, .int 1, .int 2]) (show New H7 M0 from n0)
    have z1 := same_new (o := .lst [V.int 1000000000, .int 999999999]) (show New _ M1 from n1)
    have z2 := same_new (o := .lst [V.int 5, .int 7, .int 9]) (show New _ M2 from n2)
    have z3 := same_new (o := .lst [V.int 0, .int 3, .int 1000000000]) (show New _ M3 from n3)
    have z4 := same_new (o := .lst [V.ref M0, .ref M1, .ref M2, .ref M3]) (show New _ M from nM)
    have y3 := z3.trans z4
    have y2 := z2.trans y3
    have y1 := z1.trans y2
    have y0 := z0.trans y1
    have B8' := B7.same y0
    obtain ⟨xb, hxb⟩ := B7.in'.1
    have k0 : M0 ≠ b := Ne.symm (ne_new (show New H7 M0 from n0) hxb)
    have k1 : M1 ≠ b := Ne.symm (ne_new (show New _ M1 from n1) (z0 _ _ hxb))
    have k2 : M2 ≠ b := Ne.symm (ne_new (show New _ M2 from n2) ((z0.trans z1) _ _ hxb))
    have k3 : M3 ≠ b := Ne.symm (ne_new (show New _ M3 from n3) (((z0.trans z1).trans z2) _ _ hxb))
    have k4 : M ≠ b := Ne.symm (ne_new (show New _ M from nM) ((((z0.trans z1).trans z2).trans z3) _ _ hxb))
    have a0 : M0 ≠ A := Ne.symm (ne_new (show New H7 M0 from n0) hA7)
    have a1 : M1 ≠ A := Ne.symm (ne_new (show New _ M1 from n1) (z0 _ _ hA7))
    have a2 : M2 ≠ A := Ne.symm (ne_new (show New _ M2 from n2) ((z0.trans z1) _ _ hA7))
    have a3 : M3 ≠ A := Ne.symm (ne_new (show New _ M3 from n3) (((z0.trans z1).trans z2) _ _ hA7))
    refine ⟨b, l, M, _, _, rfl, B8', by omega, k4, upd_same, (by show 1 ≤ 4; decide), (by show 4 ≤ 100; decide), fun H8 j x B8 b8 hj => ?_⟩
    obtain ⟨Mi, xs, rfl, hMi, Mib, MiA, hx1, hx3, hxv⟩ : ∃ (Mi : Addr) (xs : List Int), x = .ref Mi ∧ H8 Mi = some (.lst (xs.map V.int)) ∧ Mi ≠ b ∧ Mi ≠ A ∧ 1 ≤ xs.length ∧ xs.length ≤ 3 ∧ ∀ z ∈ xs, 0 ≤ z ∧ z ≤ 1000000000 := by
      match j, hj with
      | 0, e => cases e; exact ⟨M0, [0, 1, 2], rfl, b8 _ _ k0 (y1 _ _ upd_same), k0, a0, by decide, by decide, by decide⟩
      | 1, e => cases e; exact ⟨M1, [1000000000, 999999999], rfl, b8 _ _ k1 (y2 _ _ upd_same), k1, a1, by decide, by decide, by decide⟩
      | 2, e => cases e; exact ⟨M2, [5, 7, 9], rfl, b8 _ _ k2 (y3 _ _ upd_same), k2, a2, by decide, by decide, by decide⟩
      | 3, e => cases e; exact ⟨M3, [0, 3, 1000000000], rfl, b8 _ _ k3 (z4 _ _ upd_same), k3, a3, by decide, by decide, by decide⟩
    have hW8 := b8 _ _ Wb (y0 _ _ hW7)
    have hD8 := b8 _ _ Db (y0 _ _ hD7)
    have hA8 := b8 _ _ Ab (y0 _ _ hA7)
    clear hj b8 B8' y0 y1 y2 y3 z0 z1 z2 z3 z4 k0 k1 k2 k3 k4 a0 a1 a2 a3 hxb xb hA7 hW7 hD7 B7 n0 n1 n2 n3 nM
    obtain ⟨Z, hZp, hZo⟩ := ex_asc hS.dif
    have hZl : Z.length ≤ 14 := by rw [hZp.length_eq]; exact hS.len
    -- the ties
    refine tsort (K0 := K) (i := 6) rfl hD8 hS hn60 hZp hZo fun H9 p rs s9 np hp hr => ⟨p, rfl, ⟨_, .inl (.inl hp)⟩, ?_⟩
    have pb : p ≠ b := Ne.symm (ne_new np B8.in'.1.choose_spec)
    have pA : p ≠ A := Ne.symm (ne_new np hA8)
    replace hW8 := s9 _ _ hW8
    replace hD8 := s9 _ _ hD8
    replace hA8 := s9 _ _ hA8
    replace hMi := s9 _ _ hMi
    replace B8 := B8.same s9
    have hrl := hr.length
    refine for_list (K := K) (a := p) (xs := rs.map V.ref) (fun j σ H => (∃ v9, σ = [some (.ref a), some (.ref b), some (.int (0 + (i : Int))), some (.int (n : Int)), some (.ref W), some (.int sg), some (.ref D), some (.ref A), some (.ref Mi), v9, v10, v11, v12, v13, v14, v15, v16, v17, v18, v19]) ∧ BagAt H b l (i * 100 + 1 + 16 + 1 + 1 + j) ∧ But2 b A H9 H ∧ ∃ zs ts, H A = some (.lst zs) ∧ Trs K H zs ts ∧ ts.map kk = (Z.take j).map kk ∧ ∀ p ∈ ts, 0 ≤ p.2.2 ∧ p.2.2 ≤ 1000000000)
      ⟨⟨_, rfl⟩, B8, But2.refl _ _ _, [], [], hA8, True.intro, rfl, fun p hp => by cases hp⟩ (fun j σ H _ h => .inl (.inl (h.2.2.1 _ _ pb pA hp))) ?_ ?_
    · rintro j x σ H10 hx ⟨⟨v9', rfl⟩, B10, b10, zs, ts, hA10, hT, hk, hv⟩
      rw [List.getElem?_map] at hx
      obtain ⟨y, hy, rfl⟩ := Option.map_eq_some_iff.mp hx
      obtain ⟨r, hr', hyt⟩ := hr.get hy
      have hj := (List.getElem?_eq_some_iff.mp hr').1
      obtain ⟨xb, hxb⟩ := B8.in'.1
      have yb : y ≠ b := fun z => by rw [z, hxb] at hyt; cases hyt
      have yA : y ≠ A := fun z => by rw [z, hA8] at hyt; cases hyt
      refine ⟨_, rfl, .inl ⟨rfl, _, .inl (.inl hA10)⟩, _, rfl, _, rfl, _, rfl, b, l, Mi, _, xs.map V.int, rfl, B10, by omega, Mib, b10 _ _ Mib MiA hMi, by rw [List.length_map]; omega, by rw [List.length_map]; omega, fun H11 k x B11 b11 hxk => ⟨(by show 1 ≤ sizeLine; decide), fun U nU => ?_⟩⟩
      rw [List.getElem?_map] at hxk
      obtain ⟨c, hc, rfl⟩ := Option.map_eq_some_iff.mp hxk
      replace nU : New H11 U := nU
      have sU := same_new (o := .tup [V.int c]) nU
      refine ⟨y, U, _, _, rfl, rfl, sU _ _ (b11 _ _ yb (b10 _ _ yb yA hyt)), upd_same, (by show 3 ≤ sizeLine; decide), fun H12 R s12 hR => ?_⟩
      have s2 := sU.trans s12
      have hA12 := s2 _ _ (b11 _ _ Ab hA10)
      obtain ⟨xb', hxb'⟩ := B10.in'.1
      have hT12 := (Trs.but hxb' b11 hT).same s2
      have hzl := hT.length
      have hkl := congrArg List.length hk
      rw [List.length_map, List.length_map, List.length_take] at hkl
      refine ⟨A, zs, _, rfl, rfl, hA12, by rw [sizeLine_eq]; omega, ⟨_, rfl⟩, ((B11.same s2).mono (by omega)).put Ab Al, ((b10.trans (But2.of b11)).trans (But2.of (But.of s2))).trans (But2.upd _ _ _ _), zs ++ [.ref R], ts ++ [(r.1, r.2.1, c)], upd_same, Trs.append (Trs.but hA12 (But.upd _ _ _) hT12) ⟨⟨R, rfl, SqT.but hA12 (.inl (.inl hR)) (But.upd _ _ _)⟩, True.intro⟩, ?_, fun p hp => ?_⟩
      · rw [List.map_append, hk, List.take_add_one, hr', List.map_append]
        rfl
      · rcases List.mem_append.mp hp with hp | hp
        · exact hv p hp
        · cases List.mem_singleton.mp hp
          exact hxv c (List.mem_of_getElem? hc)
    rintro σ H10 ⟨⟨v9', rfl⟩, B10, b10, zs, ts, hA10, hT, hk, hv⟩
    rw [List.length_map, hrl] at B10
    rw [List.length_map, hrl, List.take_length] at hk
    have hW10 := b10 _ _ Wb WA' hW8
    have hD10 := b10 _ _ Db DA hD8
    replace B10 := B10.mono (show _ ≤ i * 100 + 33 by omega)
    clear b10 hr hp pb pA np s9 hA8 hW8 hD8 hMi Mib MiA hx1 hx3 hxv B8 hrl
    have M0 : Made n S Z ts [] := ⟨hS, hZp, hZo, hk, hv, .nil, fun p hp => by cases hp⟩
    have hbb := M0.bb
    have htl : ts.length ≤ 14 := by have := congrArg List.length hk; rw [List.length_map, List.length_map] at this; omega
    have hf : ∀ i j : Nat, i < j → gr ts i j = amt ts i j := fun i j hij => gr_amt (fun p hp => (hbb p hp).2.1) hij
    clear M0
    -- the grid
    refine ⟨_, rfl, _, rfl, n, A, zs, ts, rfl, hA10, hT, hn60, by omega, hbb, fun H11 G s11 hG => ?_⟩
    -- low
    refine tsort (K0 := K) (i := 6) rfl (s11 _ _ hD10) hS hn60 hZp hZo fun H12 p rs s12 np hp hr => ⟨p, rfl, ⟨_, .inl (.inl hp)⟩, fun L nL => ?_⟩
    replace hG := hG.same s12
    refine selC (K := K) (f := lowB (amt ts)) hS hZp hp hr nL (fun p hp H' y Qt s' hy hq => ?_) fun H13 rsL s13 hL hPL => ?_
    · exact cell_sum rfl rfl rfl (hG.same s') hy (s' _ _ ((s11.trans s12) _ _ hD10)) hS hp hf ⟨_, _, rfl, rfl, _, rfl, hq⟩
    replace hG := hG.same s13
    have Lb : L ≠ b := Ne.symm (ne_new nL ((B10.same s11).same s12).in'.1.choose_spec)
    replace s11 := (s11.trans s12).trans s13
    clear hp hr nL np s12 s13
    -- high
    refine tsort (K0 := K) (i := 6) rfl (s11 _ _ hD10) hS hn60 hZp hZo fun H14 p rs s12 np hp hr => ⟨p, rfl, ⟨_, .inl (.inl hp)⟩, fun Lh nL => ?_⟩
    replace hG := hG.same s12
    refine selC (K := K) (f := highB (amt ts)) hS hZp hp hr nL (fun p hp H' y Qt s' hy hq => ?_) fun H15 rsH s13 hH hPH => ?_
    · exact cell_sum rfl rfl rfl (hG.same s') hy (s' _ _ ((s11.trans s12) _ _ hD10)) hS hp hf ⟨_, _, rfl, rfl, _, rfl, hq⟩
    replace hG := hG.same s13
    have s1013 := (s11.trans s12).trans s13
    replace hL := (s12.trans s13) _ _ hL
    replace hPL := hPL.same (s12.trans s13)
    have Lhb : Lh ≠ b := Ne.symm (ne_new nL ((B10.same s11).same s12).in'.1.choose_spec)
    clear hp hr nL np s12 s13
    replace hW10 := s1013 _ _ hW10
    replace hD10 := s1013 _ _ hD10
    replace hA10 := s1013 _ _ hA10
    replace hT := hT.same s1013
    replace B10 := B10.same s1013
    clear s1013 s11
    -- made
    refine tsort (K0 := K) (i := 6) rfl hD10 hS hn60 hZp hZo fun H16 p rs s14 np hp hr => ⟨p, rfl, ⟨_, .inl (.inl hp)⟩, fun M nM => ?_⟩
    replace nM : New H16 M := nM
    have Mb : M ≠ b := Ne.symm (ne_new nM (B10.same s14).in'.1.choose_spec)
    have hrl := hr.length
    refine lc_list (K := K) (a := p) (xs := rs.map V.ref) (fun j H6 => Same H16 H6 ∧ ∃ zs', H6 M = some (.lst zs') ∧ Trs K H6 zs' (chg (amt ts) (Z.take j)) ∧ zs'.length ≤ j) ⟨same_new nM, [], upd_same, True.intro, Nat.le_refl _⟩ (fun j H6 _ h => .inl (.inl (h.1 _ _ hp))) ?_ ?_
    · rintro j x H6 hx ⟨m1, zs', m2, m3, m4⟩
      rw [List.getElem?_map] at hx
      obtain ⟨y, hy, rfl⟩ := Option.map_eq_some_iff.mp hx
      obtain ⟨r, hr', hyt⟩ := hr.get hy
      have hrS : r ∈ S := hZp.mem_iff.mp (List.mem_of_getElem? hr')
      have hj := (List.getElem?_eq_some_iff.mp hr').1
      replace hyt := m1 _ _ hyt
      have s6 := s14.trans m1
      refine ⟨rfl, _, rfl, cell_sum (i10 := 10) (i9 := 9) (i6 := 6) rfl rfl rfl (hG.same s6) hyt (s6 _ _ hD10) hS hrS hf ⟨(by show 1 ≤ sizeLine; decide), fun U nU => ?_⟩⟩
      replace nU : New H6 U := nU
      have sU := same_new (o := .tup [V.int (amt ts r.1 r.2.1 + r.2.2)]) nU
      refine ⟨y, U, _, _, rfl, rfl, sU _ _ hyt, upd_same, (by show 3 ≤ sizeLine; decide), fun H7 R s7 hR => ?_⟩
      have s67 := sU.trans s7
      have m2' := s67 _ _ m2
      have e9 : chg (amt ts) (Z.take (j + 1)) = chg (amt ts) (Z.take j) ++ [(r.1, r.2.1, amt ts r.1 r.2.1 + r.2.2)] := by
        unfold chg
        rw [List.take_add_one, hr', List.map_append]
        rfl
      refine ⟨zs', m2', by rw [sizeLine_eq]; omega, over nM (m1.trans s67), zs' ++ [.ref R], upd_same, ?_, by rw [List.length_append, List.length_singleton]; omega⟩
      rw [e9]
      exact Trs.append (Trs.but m2' (But.upd _ _ _) (m3.same s67)) ⟨⟨R, rfl, SqT.but m2' (.inl (.inl hR)) (But.upd _ _ _)⟩, True.intro⟩
    rintro H17 ⟨m1, zm, hM, hTm, hzm⟩
    rw [List.length_map, hrl, List.take_length] at hTm
    rw [List.length_map, hrl] at hzm
    have s15 := s14.trans m1
    replace hL := s15 _ _ hL
    replace hPL := hPL.same s15
    replace hH := s15 _ _ hH
    replace hPH := hPH.same s15
    replace hW10 := s15 _ _ hW10
    replace hD10 := s15 _ _ hD10
    replace hA10 := s15 _ _ hA10
    replace hT := hT.same s15
    replace B10 := B10.same s15
    clear m1 s14 s15 nM np hp hr hrl hG hf
    -- those beside
    refine ⟨_, rfl, _, rfl, _, rfl, b, l, D, _, n, S, rfl, B10, by omega, hn2, hn60, hD10, hS.dif, fun H18 Mo xo ms B18 b18 nMo hMo hTo hmo hmm hml => ?_⟩
    have MD : Made n S Z ts ms := ⟨hS, hZp, hZo, hk, hv, hmo, hmm⟩
    obtain ⟨xb, hxb⟩ := B10.in'.1
    replace hL := b18 _ _ Lb hL
    replace hPL := hPL.but (x0 := 0) hxb b18
    replace hH := b18 _ _ Lhb hH
    replace hPH := hPH.but (x0 := 0) hxb b18
    replace hW10 := b18 _ _ Wb hW10
    replace hA10 := b18 _ _ Ab hA10
    replace hT := Trs.but hxb b18 hT
    replace hM := b18 _ _ Mb hM
    replace hTm := Trs.but hxb b18 hTm
    have hxo := hTo.length
    have hzs := hT.length
    clear b18 nMo hmo hmm hD10 B10 hxb xb Lb Lhb Mb
    -- sorted(made + more), more + ties
    refine ⟨_, rfl, _, rfl, M, Mo, zm, xo, rfl, rfl, hM, hMo, by rw [sizeLine_eq]; omega, fun q1 nq1 => ?_⟩
    replace nq1 : New H18 q1 := nq1
    have sq := same_new (o := .lst (zm ++ xo)) nq1
    have hTq : Trs K (upd H18 q1 (.lst (zm ++ xo))) (zm ++ xo) (chg (amt ts) Z ++ ms) := Trs.append (hTm.same sq) (hTo.same sq)
    refine ⟨q1, _, rfl, .inl (.inl upd_same), Trs.bdS hTq (MD.bS hn60), fun ys p hperm hord np => ?_⟩
    obtain ⟨T2, hT2p, hT2⟩ := Trs.perm hperm hTq
    have hT2o := lt2_of (MD.dm.perm hT2p) (Trs.orderS hT2 (fun p hp => MD.bS hn60 p (hT2p.mem_iff.mp hp)) hord)
    have hT2l : T2.length ≤ 17 := by
      rw [hT2p.length_eq, List.length_append]
      unfold chg
      rw [List.length_map]
      omega
    replace np : New _ p := np
    have sp := same_new (o := .lst ys) np
    replace hT2 := hT2.same sp
    have hp := upd_same (H := upd H18 q1 (.lst (zm ++ xo))) (a := p) (o := .lst ys)
    have s19 := sq.trans sp
    generalize (upd (upd H18 q1 (.lst (zm ++ xo))) p (.lst ys)) = H19 at hT2 hp s19 ⊢
    clear sp np sq hTq nq1 hperm hord hTm hM hzm zm
    refine ⟨_, rfl, _, rfl, Mo, A, xo, zs, rfl, rfl, s19 _ _ hMo, s19 _ _ hA10, by rw [sizeLine_eq]; omega, fun q2 nq2 => ⟨_, _, rfl, ?_⟩⟩
    replace nq2 : New H19 q2 := nq2
    have sq := same_new (o := .lst (xo ++ zs)) nq2
    have hq2 := upd_same (H := H19) (a := q2) (o := .lst (xo ++ zs))
    have hTt := (Trs.append (hTo.same s19) (hT.same s19)).same sq
    have s20 := s19.trans sq
    replace hT2 := hT2.same sq
    replace hp := sq _ _ hp
    generalize (upd H19 q2 (.lst (xo ++ zs))) = H20 at hq2 hTt s20 hT2 hp ⊢
    replace hL := s20 _ _ hL
    replace hPL := hPL.same s20
    replace hH := s20 _ _ hH
    replace hPH := hPH.same s20
    replace hW10 := s20 _ _ hW10
    replace B18 := B18.same s20
    clear s20 sq s19 nq2 hTo hT hMo hA10
    -- what is due
    refine ⟨_, rfl, _, rfl, p, rfl, ⟨_, .inl (.inl hp)⟩, fun N nN => ?_⟩
    replace nN : New H20 N := nN
    refine lc_list (K := K) (a := p) (xs := ys) (fun j H6 => Same H20 H6 ∧ ∃ zs', H6 N = some (.lst zs') ∧ Trs K H6 zs' ((T2.take j).filter fun p => decide (p.2.2 > 0)) ∧ zs'.length ≤ j) ⟨same_new nN, [], upd_same, True.intro, Nat.le_refl _⟩ (fun j H6 _ h => .inl (.inl (h.1 _ _ hp))) ?_ ?_
    · rintro j x H6 hx ⟨m1, zs', m2, m3, m4⟩
      obtain ⟨r, hr', t', rfl, hSt⟩ := (hT2.same m1).get hx
      have hj := (List.getElem?_eq_some_iff.mp hr').1
      refine ⟨rfl, _, rfl, t', _, 2, _, rfl, rfl, hSt, atI_nat (j := 2) rfl, _, _, rfl, rfl, _, rfl, ?_⟩
      dsimp only
      by_cases c : r.2.2 > 0
      · rw [decide_eq_true c]
        refine ⟨_, rfl, zs', m2, by rw [sizeLine_eq]; omega, over nN m1, zs' ++ [.ref t'], upd_same, ?_, by rw [List.length_append, List.length_singleton]; omega⟩
        rw [List.take_add_one, hr', List.filter_append, show (Option.toList (some r)) = [r] from rfl, List.filter_cons_of_pos (by exact decide_eq_true c)]
        exact Trs.append (Trs.but m2 (But.upd _ _ _) m3) ⟨⟨t', rfl, SqT.but m2 hSt (But.upd _ _ _)⟩, True.intro⟩
      · rw [decide_eq_false c]
        refine ⟨m1, zs', m2, ?_, by omega⟩
        rw [List.take_add_one, hr', List.filter_append, show (Option.toList (some r)) = [r] from rfl, List.filter_cons_of_neg (by simpa using c), List.filter_nil, List.append_nil]
        exact m3
    rintro H21 ⟨m1, zs', m2, m3, m4⟩
    rw [hT2.length, List.take_length] at m3
    refine ⟨N, zs', rfl, .inl ⟨.inl (.inl m2), fun t nt => ⟨(by show 2 ≤ sizeLine; decide), fun R2 nR2 => ⟨(by show 2 ≤ sizeLine; decide), fun R nR => ?_⟩⟩⟩⟩
    have w1 := same_new (o := .tup zs') (show New H21 t from nt)
    have w2 := same_new (o := .tup [V.int (n : Int), .ref t]) (show New _ R2 from nR2)
    have w3 := same_new (o := .tup [V.str "told", .ref R2]) (show New _ R from nR)
    have s23 := ((m1.trans w1).trans w2).trans w3
    have hdue : DueAt K (upd (upd (upd H21 t (.tup zs')) R2 (.tup [V.int (n : Int), .ref t])) R (.tup [V.str "told", .ref R2])) R (.told n (T2.filter fun p => decide (p.2.2 > 0))) := ⟨R2, t, zs', upd_same, w3 _ _ upd_same, (w2.trans w3) _ _ upd_same, (m3.same w1).same (w2.trans w3)⟩
    show Ends.nx _ _ (upd (upd (upd H21 t (.tup zs')) R2 (.tup [V.int (n : Int), .ref t])) R (.tup [V.str "told", .ref R2]))
    generalize (upd (upd (upd H21 t (.tup zs')) R2 (.tup [V.int (n : Int), .ref t])) R (.tup [V.str "told", .ref R2])) = H23 at s23 hdue ⊢
    replace hq2 := s23 _ _ hq2
    replace hTt := hTt.same s23
    replace hL := s23 _ _ hL
    replace hPL := hPL.same s23
    replace hH := s23 _ _ hH
    replace hPH := hPH.same s23
    replace hW10 := s23 _ _ hW10
    replace B18 := B18.same s23
    clear s23 w1 w2 w3 m1 m2 m3 m4 nt nR2 nR nN hp hT2
    generalize hT3 : (T2.filter fun p => decide (p.2.2 > 0)) = T3' at hdue
    refine ⟨fun σ' H' => ∃ E, σ' = [some (.ref a), some (.ref b), some (.int (0 + (i : Int))), some (.int (n : Int)), some (.ref W), some (.int sg), some (.ref D), some (.ref q2), some (.ref Mi), v9', some (.ref G), some (.ref L), some (.ref Lh), some (.ref p), some (.ref Mo), some (.ref E), v16, v17, v18, v19] ∧ Same H23 H' ∧ DueAt K H' E (dueOf n (amt ts) Z T3'), ?_, ?_⟩
    · refine ⟨_, rfl, (by show 0 ≤ sizeLine; decide), fun E0' nE => ?_⟩
      replace nE : New H23 E0' := nE
      have sE := same_new (o := .lst []) nE
      refine ne_pairs (sE _ _ hL) (hPL.same sE) upd_same ⟨_, rfl, ?_⟩
      replace hL := sE _ _ hL
      replace hPL := hPL.same sE
      replace hH := sE _ _ hH
      replace hPH := hPH.same sE
      replace hdue := hdue.same sE
      generalize (upd H23 E0' (.lst [])) = H24 at sE hL hPL hH hPH hdue ⊢
      refine ite2 (fun hc => ?_) (fun hc => ?_)
      · cases hlow : Z.filter (lowB (amt ts)) with
        | nil => rw [hlow] at hc; exact absurd hc (by decide)
        | cons p0 lo =>
          rw [hlow] at hPL
          cases hrs : rsL with
          | nil => rw [hrs] at hPL; exact hPL.elim
          | cons r0 rs0 =>
            rw [hrs] at hPL hL
            have hp0 : p0 ∈ Z := (List.mem_filter.mp (show p0 ∈ Z.filter (lowB (amt ts)) by rw [hlow]; exact List.mem_cons_self)).1
            have hb := hS.bd p0 (hZp.mem_iff.mp hp0)
            obtain ⟨io1, io2, io3⟩ := ints_ok (l := [p0.1, p0.2.1]) (by
              intro i hi
              simp only [List.mem_cons, List.not_mem_nil, or_false] at hi
              rcases hi with rfl | rfl
              · exact small_of (by omega) (by omega)
              · exact small_of (by omega) (by omega))
            refine ⟨_, rfl, L, _, 0, _, rfl, rfl, .inl (.inl hL), atI_nat (j := 0) rfl, r0, _, [.int p0.1, .int p0.2.1], rfl, .inl (.inl hPL.1), .cons (.int _) (.cons (.int _) .nil), io2, by have : PyData.depthAll [PyData.int p0.1, PyData.int p0.2.1] = 0 := io3; omega, ?_, (by show 2 ≤ sizeLine; decide), fun R' nR' => ?_⟩
            · have := tupleText_le [PyData.int p0.1, PyData.int p0.2.1]
              have h2 : cost [PyData.int p0.1, PyData.int p0.2.1] ≤ 18 * 2 := io1
              rw [sizeLine_eq]
              omega
            · refine ⟨R', rfl, sE.trans (same_new nR'), ?_⟩
              rw [due_few (p := p0) (by rw [hlow]; rfl)]
              exact upd_same
      · have hno : Z.filter (lowB (amt ts)) = [] := by
          cases e : decide (Z.filter (lowB (amt ts)) = []) with
          | true => exact of_decide_eq_true e
          | false => rw [e] at hc; exact (hc rfl).elim
        refine ⟨_, rfl, (by show 0 ≤ sizeLine; decide), fun E1 nE1 => ?_⟩
        replace nE1 : New H24 E1 := nE1
        have sE1 := same_new (o := .lst []) nE1
        refine ne_pairs (sE1 _ _ hH) (hPH.same sE1) upd_same ⟨_, rfl, ?_⟩
        refine ite2 (fun hc => ?_) (fun hc => ?_)
        · refine ⟨(by show 2 ≤ sizeLine; decide), fun R' nR' => ?_⟩
          refine ⟨R', rfl, (sE.trans sE1).trans (same_new nR'), ?_⟩
          cases hhi : Z.filter (highB (amt ts)) with
          | nil => rw [hhi] at hc; exact absurd hc (by decide)
          | cons p0 lo =>
            have hp0 := List.mem_filter.mp (show p0 ∈ Z.filter (highB (amt ts)) by rw [hhi]; exact List.mem_cons_self)
            rw [due_many hno ⟨p0, hp0.1, hp0.2⟩]
            exact upd_same
        · refine ⟨R, rfl, sE.trans sE1, ?_⟩
          have hno2 : Z.filter (highB (amt ts)) = [] := by
            cases e : decide (Z.filter (highB (amt ts)) = []) with
            | true => exact of_decide_eq_true e
            | false => rw [e] at hc; exact (hc rfl).elim
          rw [due_told hno fun p hp => by
            cases e : highB (amt ts) p with
            | false => rfl
            | true => exact absurd e (List.filter_eq_nil_iff.mp hno2 p hp)]
          exact hdue.same sE1
    rintro σ' H24 ⟨E0', rfl, s24, hE⟩
    rw [due_am MD.low.symm MD.high.symm] at hE
    replace hq2 := s24 _ _ hq2
    replace hTt := hTt.same s24
    replace hW10 := s24 _ _ hW10
    replace B18 := B18.same s24
    clear s24 hdue hL hPL hH hPH
    -- the web
    have hTl := hTt.length
    rw [List.length_append, List.length_append] at hTl
    refine ⟨_, rfl, _, rfl, n, q2, xo ++ zs, ms ++ ts, rfl, .inl (.inl (.inl hq2)), hTt, hn60, by rw [List.length_append]; omega, MD.tie hn60, fun u v => by rw [MD.norm]; exact MD.bd u v, fun H25 wb TT s25 nw ht hw => ?_⟩
    rw [MD.norm] at ht
    have V1 : WA K C H25 wb n (amt (ms ++ ts)) TT := mkWA hw ht hn60 MD.bd
    refine ⟨_, rfl, W, _, rfl, .inl (.inl (.inl (s25 _ _ hW10))), fun Kp nK => ⟨_, _, rfl, ?_⟩⟩
    replace nK : New H25 Kp := nK
    have sK := same_new (o := .lst (ws.map V.int)) nK
    have hK := upd_same (H := H25) (a := Kp) (o := .lst (ws.map V.int))
    have s26 := s25.trans sK
    replace V1 := V1.same sK
    generalize (upd H25 Kp (.lst (ws.map V.int))) = H26 at hK s26 V1 ⊢
    replace hW10 := s26 _ _ hW10
    replace hE := hE.same s26
    replace B18 := B18.same s26
    clear s26 sK nK hw ht nw s25 hTl hTt hq2
    have hfine := due_fine (am := amt (ms ++ ts)) (Z := Z) (T' := T3') hn60 fun p hp => hS.bd p (hZp.mem_iff.mp hp)
    have hties : Z.filter (lowB (amt (ms ++ ts))) = [] → TiesOf (n : Int) (fun u v => amt (ms ++ ts) u v + amt S u v) T3' := fun h => by
      rw [MD.low] at h
      rw [← hT3]
      exact MD.ties h hT2p hT2o
    refine ⟨2, rfl, by decide, by decide, ?_⟩
    refine for_range (n := 2) (fun j σ H => (∃ v19, σ = [some (.ref a), some (.ref b), some (.int (0 + (i : Int))), some (.int (n : Int)), some (.ref W), some (.int sg), some (.ref D), some (.ref q2), some (.ref Mi), v9', some (.ref G), some (.ref L), some (.ref Lh), some (.ref p), some (.ref Mo), some (.ref E0'), v16, some (.ref wb), some (.ref Kp), v19]) ∧ Same H26 H) ⟨⟨_, rfl⟩, Same.refl _⟩ ?_ ?_
    · rintro j σ H27 hj ⟨⟨v19', rfl⟩, s27⟩
      refine told_step rfl rfl rfl (V1.same s27) V1.len (.inl (.inl (s27 _ _ hW10))) hwk hs hSe hZp hZo hties fun H28 R' s28 hR' => ?_
      have s228 := s27.trans s28
      refine ⟨_, rfl, ne_due hR' (hE.same s228) hfine ⟨false, rfl, iteF ?_⟩⟩
      refine ⟨_, rfl, _, rfl, ne_walk (s228 _ _ hW10) (s228 _ _ hK) ⟨false, rfl, iteF ?_⟩⟩
      exact ⟨⟨_, rfl⟩, s228⟩
    rintro σ H27 ⟨⟨v19', rfl⟩, s27⟩
    replace V1 := V1.same s27
    replace hW10 := s27 _ _ hW10
    replace hE := hE.same s27
    replace B18 := B18.same s27
    clear s27 hK hties hfine
    obtain ⟨x, hx⟩ := hE.tag
    refine ⟨_, rfl, E0', _, 0, _, rfl, rfl, .inl (.inl hx), atI_nat (j := 0) rfl, rfl, _, rfl, ?_⟩
    have fin : ∀ H', Same H27 H' → BagAt H' b l ((i + 1) * 100) := fun H' s' => (B18.same s').mono (by omega)
    cases hdd : dueOf n (amt (ms ++ ts)) Z T3' with
    | few u v => rw [tag_few]; exact ⟨⟨_, _, _, _, _, _, _, _, _, _, _, _, _, _, _, _, _, _, rfl⟩, fin _ (Same.refl _)⟩
    | many => rw [tag_many]; exact ⟨⟨_, _, _, _, _, _, _, _, _, _, _, _, _, _, _, _, _, _, rfl⟩, fin _ (Same.refl _)⟩
    | told m T9 =>
      rw [tag_told]
      obtain ⟨hno, hnh⟩ := told_inv hdd
      subst hSe
      refine ⟨_, rfl, _, rfl, _, rfl, wb, W, n, amt (ms ++ ts), TT, Z, ws, sg, rfl, V1, V1.len, .inl (.inl hW10), hwk, hs, hZp, hZo, fun p hp => ?_, fun h1 h2 => ?_, fun h1 h2 H28 x2 T8 s28 VX => ?_⟩
      · rw [hno] at hp; cases hp
      · obtain ⟨p, hp, e⟩ := h2
        rw [hnh p hp] at e
        cases e
      have hS2 : SumW n (sumP (pas (-sg) ws)) := by
        have := sumW_of hwk (show -sg = 1 ∨ -sg = -1 by omega) (k := (pas (-sg) ws).length)
        rwa [List.take_length] at this
      obtain ⟨Z2, hZ2p, hZ2o⟩ := ex_asc hS2.dif
      have lo2 := back_low (am := amt (ms ++ ts)) hS2 hZ2p sum_back (ties_pos V1.ties)
      have hi2 := back_high (am := amt (ms ++ ts)) hS2 hZ2p sum_back V1.bd
      refine ⟨_, rfl, _, rfl, sg, rfl, x2, W, n, _, T8, Z2, ws, -sg, rfl, VX, VX.len, .inl (.inl (s28 _ _ hW10)), hwk, by omega, hZ2p, hZ2o, fun p hp => ?_, fun h1 h2 => ?_, fun h1 h2 H29 x3 T7 s29 VY => ?_⟩
      · rw [lo2] at hp; cases hp
      · obtain ⟨p, hp, e⟩ := h2
        rw [hi2 p hp] at e
        cases e
      refine ⟨_, rfl, eq_web EQ.ty EQ.nf VY ((V1.same s28).same s29) rfl (fun u v => by rw [sum_back]; omega) ⟨true, rfl, _, rfl, ?_⟩⟩
      exact ⟨⟨_, _, _, _, _, _, _, _, _, _, _, _, _, _, _, _, _, _, rfl⟩, fin _ (s28.trans s29)⟩
end
end T77
/-! What the head holds, gathered: the law's contract behind it. -/
namespace T77
open PySem PySem.Spec PyProof.Rows L2 Wk Vb
def okB (K : PySem.W.Frag) (C cT cF f_winit f_get f_eq f_xT f_xF : Addr) : Bool :=
  PySem.W.plainGet K C Str.empty && (PySem.W.hasDictIn K C && (PySem.W.plainOver K C && (decide (PySem.W.findIn K (.ref C) "__setattr__" = some (some (.builtin "object.__setattr__"))) && (decide (PySem.W.findIn K (.ref C) "size" = some none) && (decide (PySem.W.findIn K (.ref C) "ties" = some none) && (decide (PySem.W.findIn K (.ref C) "total" = some none) && (decide (PySem.W.findIn K (.ref C) "_numbers" = some none) && (decide (PySem.W.findIn K (.ref C) "degrees" = some none) && (decide (PySem.W.findIn K (.ref C) "__class__" = some (some (.builtin "object.__class__"))) && (decide (PySem.W.mroIn K C (.type "object") = some true) && (decide (PySem.W.kitOne K (.ref C) (.ref C) = some true) && (PySem.W.makesIn K C && (PySem.W.keepIn K (.ref C) && (decide (PySem.W.specialIn K (.builtin "object.__class__") "__get__" = some (some (.builtin "getset_descriptor.__get__"))) && (decide (PySem.W.takesIn K (.builtin "object.__class__") = some true) && (PySem.W.notFirst K C (.ref C) && (decide (PySem.W.findIn K (.ref C) "__ne__" = some (some (.builtin "object.__ne__"))) && (PySem.W.isFn K (.ref f_winit) && (PySem.W.isFn K (.ref f_eq) && (PySem.W.isFn K (.ref f_get) && (PySem.W.fnIn K f_get && (decide (PySem.W.subIn K (.ref cT) (.type "BaseException") = some true) && (decide (PySem.W.typeIn K (.ref cT) = some (.type "type")) && (PySem.W.keepIn K (.ref cT) && (decide (PySem.W.findIn K (.ref cT) "__setattr__" = some (some (.builtin "object.__setattr__"))) && (decide (PySem.W.typeIn K (.ref f_xT) = some (.type "function")) && (decide (PySem.W.findIn K (.ref cT) "limit" = some none) && (decide (PySem.W.subIn K (.ref cF) (.type "BaseException") = some true) && (decide (PySem.W.typeIn K (.ref cF) = some (.type "type")) && (PySem.W.keepIn K (.ref cF) && (decide (PySem.W.findIn K (.ref cF) "__setattr__" = some (some (.builtin "object.__setattr__"))) && (decide (PySem.W.typeIn K (.ref f_xF) = some (.type "function")) && (decide (PySem.W.findIn K (.ref cF) "pair" = some none) && (decide (PySem.W.findIn K (.ref cT) "__getattribute__" = some (some (.builtin "BaseException.__getattribute__"))) && (decide (PySem.W.findIn K (.ref cT) "__getattr__" = some none) && (PySem.W.hasDictIn K cT && (decide (PySem.W.findIn K (.ref cF) "__getattribute__" = some (some (.builtin "BaseException.__getattribute__"))) && (decide (PySem.W.findIn K (.ref cF) "__getattr__" = some none) && (PySem.W.hasDictIn K cF && (decide (PySem.W.exmOne K (.ref cF) (.ref cF) = some true) && (decide (PySem.W.exmOne K (.ref cT) (.ref cF) = some false) && (decide (PySem.W.exmOne K (.ref cT) (.ref cT) = some true)))))))))))))))))))))))))))))))))))))))))))
theorem and2 {a b : Bool} (h : (a && b) = true) : a = true ∧ b = true := Bool.and_eq_true_iff.mp h
theorem all_mk {l : PySem.W.OpenLaw} {w : World} {K : PySem.W.Frag} {h : Heap} {mg : Str → Option Value} {fa : Addr} (X : K.In h) (G : h.Ns mainGlobals mg) (hfa : mg "law" = some (.ref fa))
    {C : Addr}
    {cT : Addr}
    {cF : Addr}
    {t_mp : Tok}
    {t_mt : Tok}
    {nmT qT : Str}
    {NT : Addr}
    {bsT subT : List Value}
    {snT : List Str}
    {abT : Bool}
    {colT : Option Bool}
    {ddT : Option Addr}
    {xT yT zT uT vT : Option Value}
    {bmT : List Value}
    {nmF qF : Str}
    {NF : Addr}
    {bsF subF : List Value}
    {snF : List Str}
    {abF : Bool}
    {colF : Option Bool}
    {ddF : Option Addr}
    {xF yF zF uF vF : Option Value}
    {bmF : List Value}
    {f_whole : Addr} {oc_whole kV_whole dc_whole pm_whole cd_whole ct_whole : Value} {od_whole an_whole : Option Addr} {sl_whole : Array (Option Value)}
    {f_fromto : Addr} {oc_fromto kV_fromto dc_fromto pm_fromto cd_fromto ct_fromto : Value} {od_fromto an_fromto : Option Addr} {sl_fromto : Array (Option Value)}
    {f_place : Addr} {oc_place kV_place dc_place pm_place cd_place ct_place : Value} {od_place an_place : Option Addr} {sl_place : Array (Option Value)}
    {f_pair : Addr} {oc_pair kV_pair dc_pair pm_pair cd_pair ct_pair : Value} {od_pair an_pair : Option Addr} {sl_pair : Array (Option Value)}
    {f_tie : Addr} {oc_tie kV_tie dc_tie pm_tie cd_tie ct_tie : Value} {od_tie an_tie : Option Addr} {sl_tie : Array (Option Value)}
    {f_need : Addr} {oc_need kV_need dc_need pm_need cd_need ct_need : Value} {od_need an_need : Option Addr} {sl_need : Array (Option Value)}
    {f_bundles : Addr} {oc_bundles kV_bundles dc_bundles pm_bundles cd_bundles ct_bundles : Value} {od_bundles an_bundles : Option Addr} {sl_bundles : Array (Option Value)}
    {f_bounds : Addr} {oc_bounds kV_bounds dc_bounds pm_bounds cd_bounds ct_bounds : Value} {od_bounds an_bounds : Option Addr} {sl_bounds : Array (Option Value)}
    {f_degrees : Addr} {oc_degrees kV_degrees dc_degrees pm_degrees cd_degrees ct_degrees : Value} {od_degrees an_degrees : Option Addr} {sl_degrees : Array (Option Value)}
    {f_sign : Addr} {oc_sign kV_sign dc_sign pm_sign cd_sign ct_sign : Value} {od_sign an_sign : Option Addr} {sl_sign : Array (Option Value)}
    {f_passes : Addr} {oc_passes kV_passes dc_passes pm_passes cd_passes ct_passes : Value} {od_passes an_passes : Option Addr} {sl_passes : Array (Option Value)}
    {f_turned : Addr} {oc_turned kV_turned dc_turned pm_turned cd_turned ct_turned : Value} {od_turned an_turned : Option Addr} {sl_turned : Array (Option Value)}
    {f_bag : Addr} {oc_bag kV_bag dc_bag pm_bag cd_bag ct_bag : Value} {od_bag an_bag : Option Addr} {sl_bag : Array (Option Value)}
    {f_take : Addr} {oc_take kV_take dc_take pm_take cd_take ct_take : Value} {od_take an_take : Option Addr} {sl_take : Array (Option Value)}
    {f_one : Addr} {oc_one kV_one dc_one pm_one cd_one ct_one : Value} {od_one an_one : Option Addr} {sl_one : Array (Option Value)}
    {f_grid : Addr} {oc_grid kV_grid dc_grid pm_grid cd_grid ct_grid : Value} {od_grid an_grid : Option Addr} {sl_grid : Array (Option Value)}
    {f_walk : Addr} {oc_walk kV_walk dc_walk pm_walk cd_walk ct_walk : Value} {od_walk an_walk : Option Addr} {sl_walk : Array (Option Value)}
    {f_beside : Addr} {oc_beside kV_beside dc_beside pm_beside cd_beside ct_beside : Value} {od_beside an_beside : Option Addr} {sl_beside : Array (Option Value)}
    {f_sums : Addr} {oc_sums kV_sums dc_sums pm_sums cd_sums ct_sums : Value} {od_sums an_sums : Option Addr} {sl_sums : Array (Option Value)}
    {f_told : Addr} {oc_told kV_told dc_told pm_told cd_told ct_told : Value} {od_told an_told : Option Addr} {sl_told : Array (Option Value)}
    {f_law : Addr} {oc_law kV_law dc_law pm_law cd_law ct_law : Value} {od_law an_law : Option Addr} {sl_law : Array (Option Value)}
    {f_winit T0 aE : Addr} {oc_winit kV_winit dc_winit pm_winit cd_winit ct_winit : Value} {od_winit an_winit : Option Addr} {sl_winit : Array (Option Value)}
    {oT oE : Value} {dT dE : Option Addr} {nT nE : Nat} {sT sE : Array (Option Value)}
    {f_get : Addr} {oc_get kV_get dc_get pm_get cd_get ct_get : Value} {od_get an_get : Option Addr} {sl_get : Array (Option Value)}
    {f_eq : Addr} {oc_eq kV_eq dc_eq pm_eq cd_eq ct_eq : Value} {od_eq an_eq : Option Addr} {sl_eq : Array (Option Value)}
    {f_xT : Addr} {oc_xT kV_xT dc_xT pm_xT cd_xT ct_xT : Value} {od_xT an_xT : Option Addr} {sl_xT : Array (Option Value)}
    {f_xF : Addr} {oc_xF kV_xF dc_xF pm_xF cd_xF ct_xF : Value} {od_xF an_xF : Option Addr} {sl_xF : Array (Option Value)}
    (aC : PySem.W.nsIn K mainGlobals "Web" = some (some (.ref C)))
    (acT : PySem.W.nsIn K mainGlobals "TooMany" = some (some (.ref cT)))
    (acF : PySem.W.nsIn K mainGlobals "TooFew" = some (some (.ref cF)))
    (c_mp : PySem.W.nsIn K mainGlobals "MOST_PLACES" = some (some (.int 60 t_mp)))
    (c_mt : PySem.W.nsIn K mainGlobals "MOST_TIES" = some (some (.int 1000000000 t_mt)))
    (xLT : K.lookup cT = some (excClassObj nmT qT cT NT bsT bmT true snT subT abT colT ddT xT yT zT uT vT "ValueError.__new__"))
    (bVT : PySem.HandSPX.refsVE bmT = true)
    (xLF : K.lookup cF = some (excClassObj nmF qF cF NF bsF bmF true snF subF abF colF ddF xF yF zF uF vF "ValueError.__new__"))
    (bVF : PySem.HandSPX.refsVE bmF = true)
    (a_whole : PySem.W.nsIn K mainGlobals "is_whole" = some (some (.ref f_whole)))
    (l_whole : K.lookup f_whole = some ⟨oc_whole, od_whole, .func (PySem.W.fnOf "is_whole" "is_whole" (defArgs sWhole) (defBody sWhole) (defScope sWhole) .none kV_whole dc_whole pm_whole an_whole cd_whole ct_whole), sl_whole⟩)
    (e_whole : PySem.W.codeIn K cd_whole "is_whole" = true)
    (k_whole : PySem.W.keepIn K (.ref f_whole) = true)
    (a_fromto : PySem.W.nsIn K mainGlobals "is_from_to" = some (some (.ref f_fromto)))
    (l_fromto : K.lookup f_fromto = some ⟨oc_fromto, od_fromto, .func (PySem.W.fnOf "is_from_to" "is_from_to" (defArgs sFromTo) (defBody sFromTo) (defScope sFromTo) .none kV_fromto dc_fromto pm_fromto an_fromto cd_fromto ct_fromto), sl_fromto⟩)
    (e_fromto : PySem.W.codeIn K cd_fromto "is_from_to" = true)
    (k_fromto : PySem.W.keepIn K (.ref f_fromto) = true)
    (a_place : PySem.W.nsIn K mainGlobals "is_place" = some (some (.ref f_place)))
    (l_place : K.lookup f_place = some ⟨oc_place, od_place, .func (PySem.W.fnOf "is_place" "is_place" (defArgs sPlace) (defBody sPlace) (defScope sPlace) .none kV_place dc_place pm_place an_place cd_place ct_place), sl_place⟩)
    (e_place : PySem.W.codeIn K cd_place "is_place" = true)
    (k_place : PySem.W.keepIn K (.ref f_place) = true)
    (a_pair : PySem.W.nsIn K mainGlobals "_is_pair" = some (some (.ref f_pair)))
    (l_pair : K.lookup f_pair = some ⟨oc_pair, od_pair, .func (PySem.W.fnOf "_is_pair" "_is_pair" (defArgs sPair) (defBody sPair) (defScope sPair) .none kV_pair dc_pair pm_pair an_pair cd_pair ct_pair), sl_pair⟩)
    (e_pair : PySem.W.codeIn K cd_pair "_is_pair" = true)
    (k_pair : PySem.W.keepIn K (.ref f_pair) = true)
    (a_tie : PySem.W.nsIn K mainGlobals "_is_tie" = some (some (.ref f_tie)))
    (l_tie : K.lookup f_tie = some ⟨oc_tie, od_tie, .func (PySem.W.fnOf "_is_tie" "_is_tie" (defArgs sTie) (defBody sTie) (defScope sTie) .none kV_tie dc_tie pm_tie an_tie cd_tie ct_tie), sl_tie⟩)
    (e_tie : PySem.W.codeIn K cd_tie "_is_tie" = true)
    (k_tie : PySem.W.keepIn K (.ref f_tie) = true)
    (a_need : PySem.W.nsIn K mainGlobals "_need_arguments" = some (some (.ref f_need)))
    (l_need : K.lookup f_need = some ⟨oc_need, od_need, .func (PySem.W.fnOf "_need_arguments" "_need_arguments" (defArgs sNeed) (defBody sNeed) (defScope sNeed) .none kV_need dc_need pm_need an_need cd_need ct_need), sl_need⟩)
    (e_need : PySem.W.codeIn K cd_need "_need_arguments" = true)
    (k_need : PySem.W.keepIn K (.ref f_need) = true)
    (a_bundles : PySem.W.nsIn K mainGlobals "_bundles" = some (some (.ref f_bundles)))
    (l_bundles : K.lookup f_bundles = some ⟨oc_bundles, od_bundles, .func (PySem.W.fnOf "_bundles" "_bundles" (defArgs sBundles) (defBody sBundles) (defScope sBundles) .none kV_bundles dc_bundles pm_bundles an_bundles cd_bundles ct_bundles), sl_bundles⟩)
    (e_bundles : PySem.W.codeIn K cd_bundles "_bundles" = true)
    (k_bundles : PySem.W.keepIn K (.ref f_bundles) = true)
    (a_bounds : PySem.W.nsIn K mainGlobals "_need_bounds" = some (some (.ref f_bounds)))
    (l_bounds : K.lookup f_bounds = some ⟨oc_bounds, od_bounds, .func (PySem.W.fnOf "_need_bounds" "_need_bounds" (defArgs sBounds) (defBody sBounds) (defScope sBounds) .none kV_bounds dc_bounds pm_bounds an_bounds cd_bounds ct_bounds), sl_bounds⟩)
    (e_bounds : PySem.W.codeIn K cd_bounds "_need_bounds" = true)
    (k_bounds : PySem.W.keepIn K (.ref f_bounds) = true)
    (a_degrees : PySem.W.nsIn K mainGlobals "_degrees" = some (some (.ref f_degrees)))
    (l_degrees : K.lookup f_degrees = some ⟨oc_degrees, od_degrees, .func (PySem.W.fnOf "_degrees" "_degrees" (defArgs sDegrees) (defBody sDegrees) (defScope sDegrees) .none kV_degrees dc_degrees pm_degrees an_degrees cd_degrees ct_degrees), sl_degrees⟩)
    (e_degrees : PySem.W.codeIn K cd_degrees "_degrees" = true)
    (k_degrees : PySem.W.keepIn K (.ref f_degrees) = true)
    (a_sign : PySem.W.nsIn K mainGlobals "_sign_at" = some (some (.ref f_sign)))
    (l_sign : K.lookup f_sign = some ⟨oc_sign, od_sign, .func (PySem.W.fnOf "_sign_at" "_sign_at" (defArgs sSign) (defBody sSign) (defScope sSign) .none kV_sign dc_sign pm_sign an_sign cd_sign ct_sign), sl_sign⟩)
    (e_sign : PySem.W.codeIn K cd_sign "_sign_at" = true)
    (k_sign : PySem.W.keepIn K (.ref f_sign) = true)
    (a_passes : PySem.W.nsIn K mainGlobals "_passes" = some (some (.ref f_passes)))
    (l_passes : K.lookup f_passes = some ⟨oc_passes, od_passes, .func (PySem.W.fnOf "_passes" "_passes" (defArgs sPass) (defBody sPass) (defScope sPass) .none kV_passes dc_passes pm_passes an_passes cd_passes ct_passes), sl_passes⟩)
    (e_passes : PySem.W.codeIn K cd_passes "_passes" = true)
    (k_passes : PySem.W.keepIn K (.ref f_passes) = true)
    (a_turned : PySem.W.nsIn K mainGlobals "turned" = some (some (.ref f_turned)))
    (l_turned : K.lookup f_turned = some ⟨oc_turned, od_turned, .func (PySem.W.fnOf "turned" "turned" (defArgs sTurned) (defBody sTurned) (defScope sTurned) .none kV_turned dc_turned pm_turned an_turned cd_turned ct_turned), sl_turned⟩)
    (e_turned : PySem.W.codeIn K cd_turned "turned" = true)
    (k_turned : PySem.W.keepIn K (.ref f_turned) = true)
    (a_bag : PySem.W.nsIn K mainGlobals "_law_bag" = some (some (.ref f_bag)))
    (l_bag : K.lookup f_bag = some ⟨oc_bag, od_bag, .func (PySem.W.fnOf "_law_bag" "_law_bag" (defArgs sBag) (defBody sBag) (defScope sBag) .none kV_bag dc_bag pm_bag an_bag cd_bag ct_bag), sl_bag⟩)
    (e_bag : PySem.W.codeIn K cd_bag "_law_bag" = true)
    (k_bag : PySem.W.keepIn K (.ref f_bag) = true)
    (a_take : PySem.W.nsIn K mainGlobals "_law_take" = some (some (.ref f_take)))
    (l_take : K.lookup f_take = some ⟨oc_take, od_take, .func (PySem.W.fnOf "_law_take" "_law_take" (defArgs sTake) (defBody sTake) (defScope sTake) .none kV_take dc_take pm_take an_take cd_take ct_take), sl_take⟩)
    (e_take : PySem.W.codeIn K cd_take "_law_take" = true)
    (k_take : PySem.W.keepIn K (.ref f_take) = true)
    (a_one : PySem.W.nsIn K mainGlobals "_law_one" = some (some (.ref f_one)))
    (l_one : K.lookup f_one = some ⟨oc_one, od_one, .func (PySem.W.fnOf "_law_one" "_law_one" (defArgs sOne) (defBody sOne) (defScope sOne) .none kV_one dc_one pm_one an_one cd_one ct_one), sl_one⟩)
    (e_one : PySem.W.codeIn K cd_one "_law_one" = true)
    (k_one : PySem.W.keepIn K (.ref f_one) = true)
    (a_grid : PySem.W.nsIn K mainGlobals "_law_grid" = some (some (.ref f_grid)))
    (l_grid : K.lookup f_grid = some ⟨oc_grid, od_grid, .func (PySem.W.fnOf "_law_grid" "_law_grid" (defArgs sGrid) (defBody sGrid) (defScope sGrid) .none kV_grid dc_grid pm_grid an_grid cd_grid ct_grid), sl_grid⟩)
    (e_grid : PySem.W.codeIn K cd_grid "_law_grid" = true)
    (k_grid : PySem.W.keepIn K (.ref f_grid) = true)
    (a_walk : PySem.W.nsIn K mainGlobals "_law_walk" = some (some (.ref f_walk)))
    (l_walk : K.lookup f_walk = some ⟨oc_walk, od_walk, .func (PySem.W.fnOf "_law_walk" "_law_walk" (defArgs sWalk) (defBody sWalk) (defScope sWalk) .none kV_walk dc_walk pm_walk an_walk cd_walk ct_walk), sl_walk⟩)
    (e_walk : PySem.W.codeIn K cd_walk "_law_walk" = true)
    (k_walk : PySem.W.keepIn K (.ref f_walk) = true)
    (a_beside : PySem.W.nsIn K mainGlobals "_law_beside" = some (some (.ref f_beside)))
    (l_beside : K.lookup f_beside = some ⟨oc_beside, od_beside, .func (PySem.W.fnOf "_law_beside" "_law_beside" (defArgs sBes) (defBody sBes) (defScope sBes) .none kV_beside dc_beside pm_beside an_beside cd_beside ct_beside), sl_beside⟩)
    (e_beside : PySem.W.codeIn K cd_beside "_law_beside" = true)
    (k_beside : PySem.W.keepIn K (.ref f_beside) = true)
    (a_sums : PySem.W.nsIn K mainGlobals "_law_sums" = some (some (.ref f_sums)))
    (l_sums : K.lookup f_sums = some ⟨oc_sums, od_sums, .func (PySem.W.fnOf "_law_sums" "_law_sums" (defArgs sSums) (defBody sSums) (defScope sSums) .none kV_sums dc_sums pm_sums an_sums cd_sums ct_sums), sl_sums⟩)
    (e_sums : PySem.W.codeIn K cd_sums "_law_sums" = true)
    (k_sums : PySem.W.keepIn K (.ref f_sums) = true)
    (a_told : PySem.W.nsIn K mainGlobals "_law_told" = some (some (.ref f_told)))
    (l_told : K.lookup f_told = some ⟨oc_told, od_told, .func (PySem.W.fnOf "_law_told" "_law_told" (defArgs sTold) (defBody sTold) (defScope sTold) .none kV_told dc_told pm_told an_told cd_told ct_told), sl_told⟩)
    (e_told : PySem.W.codeIn K cd_told "_law_told" = true)
    (k_told : PySem.W.keepIn K (.ref f_told) = true)
    (a_law : PySem.W.nsIn K mainGlobals "law" = some (some (.ref f_law)))
    (l_law : K.lookup f_law = some ⟨oc_law, od_law, .func (PySem.W.fnOf "law" "law" (defArgs sLaw) (defBody sLaw) (defScope sLaw) .none kV_law dc_law pm_law an_law cd_law ct_law), sl_law⟩)
    (e_law : PySem.W.codeIn K cd_law "law" = true)
    (k_law : PySem.W.keepIn K (.ref f_law) = true)
    (a_winit : PySem.W.findIn K (.ref C) "__init__" = some (some (.ref f_winit)))
    (l_winit : K.lookup f_winit = some ⟨oc_winit, od_winit, .func (PySem.W.fnOf "__init__" "Web.__init__" (defArgs sInit) (defBody sInit) (defScope sInit) (.ref T0) kV_winit dc_winit pm_winit an_winit cd_winit ct_winit), sl_winit⟩)
    (e_winit : PySem.W.codeIn K cd_winit "Web.__init__" = true)
    (k_winit : PySem.W.keepIn K (.ref f_winit) = true)
    (lT : K.lookup T0 = some ⟨oT, dT, .seq #[.ref aE] nT, sT⟩)
    (lE : K.lookup aE = some ⟨oE, dE, .seq #[] nE, sE⟩)
    (cE : oE = .type "tuple")
    (a_get : PySem.W.findIn K (.ref C) "__getitem__" = some (some (.ref f_get)))
    (l_get : K.lookup f_get = some ⟨oc_get, od_get, .func (PySem.W.fnOf "__getitem__" "Web.__getitem__" (defArgs sGet) (defBody sGet) (defScope sGet) .none kV_get dc_get pm_get an_get cd_get ct_get), sl_get⟩)
    (e_get : PySem.W.codeIn K cd_get "Web.__getitem__" = true)
    (k_get : PySem.W.keepIn K (.ref f_get) = true)
    (a_eq : PySem.W.findIn K (.ref C) "__eq__" = some (some (.ref f_eq)))
    (l_eq : K.lookup f_eq = some ⟨oc_eq, od_eq, .func (PySem.W.fnOf "__eq__" "Web.__eq__" (defArgs sEq) (defBody sEq) (defScope sEq) .none kV_eq dc_eq pm_eq an_eq cd_eq ct_eq), sl_eq⟩)
    (e_eq : PySem.W.codeIn K cd_eq "Web.__eq__" = true)
    (k_eq : PySem.W.keepIn K (.ref f_eq) = true)
    (a_xT : PySem.W.findIn K (.ref cT) "__init__" = some (some (.ref f_xT)))
    (l_xT : K.lookup f_xT = some ⟨oc_xT, od_xT, .func (PySem.W.fnOf "__init__" "TooMany.__init__" (defArgs sTM) (defBody sTM) (defScope sTM) .none kV_xT dc_xT pm_xT an_xT cd_xT ct_xT), sl_xT⟩)
    (e_xT : PySem.W.codeIn K cd_xT "TooMany.__init__" = true)
    (k_xT : PySem.W.keepIn K (.ref f_xT) = true)
    (a_xF : PySem.W.findIn K (.ref cF) "__init__" = some (some (.ref f_xF)))
    (l_xF : K.lookup f_xF = some ⟨oc_xF, od_xF, .func (PySem.W.fnOf "__init__" "TooFew.__init__" (defArgs sTF) (defBody sTF) (defScope sTF) .none kV_xF dc_xF pm_xF an_xF cd_xF ct_xF), sl_xF⟩)
    (e_xF : PySem.W.codeIn K cd_xF "TooFew.__init__" = true)
    (k_xF : PySem.W.keepIn K (.ref f_xF) = true)
    (z_isinstance : PySem.W.nsIn K mainGlobals "isinstance" = some none)
    (z_int : PySem.W.nsIn K mainGlobals "int" = some none)
    (z_bool : PySem.W.nsIn K mainGlobals "bool" = some none)
    (z_str : PySem.W.nsIn K mainGlobals "str" = some none)
    (z_tuple : PySem.W.nsIn K mainGlobals "tuple" = some none)
    (z_list : PySem.W.nsIn K mainGlobals "list" = some none)
    (z_dict : PySem.W.nsIn K mainGlobals "dict" = some none)
    (z_len : PySem.W.nsIn K mainGlobals "len" = some none)
    (z_enumerate : PySem.W.nsIn K mainGlobals "enumerate" = some none)
    (z_sorted : PySem.W.nsIn K mainGlobals "sorted" = some none)
    (z_min : PySem.W.nsIn K mainGlobals "min" = some none)
    (z_max : PySem.W.nsIn K mainGlobals "max" = some none)
    (z_sum : PySem.W.nsIn K mainGlobals "sum" = some none)
    (z_range : PySem.W.nsIn K mainGlobals "range" = some none)
    (z_any : PySem.W.nsIn K mainGlobals "any" = some none)
    (z_repr : PySem.W.nsIn K mainGlobals "repr" = some none)
    (z_abs : PySem.W.nsIn K mainGlobals "abs" = some none)
    (z_set : PySem.W.nsIn K mainGlobals "set" = some none)
    (z_zip : PySem.W.nsIn K mainGlobals "zip" = some none)
    (z_all : PySem.W.nsIn K mainGlobals "all" = some none)
    (B : okB K C cT cF f_winit f_get f_eq f_xT f_xF = true) :
    ∃ fd : FuncData, (∀ (s : Shared) (u : Value), BindsTo s fd ⟨[u], []⟩ [("_law_script", u)]) ∧ ∀ base : Heap, K.In base → base.Ns mainGlobals mg → FnC l.prog w K mg base CX0 12 fa fd ["_law_script"] (spLaw K) := by
  have e := hfa.symm.trans (PySem.W.mg_of X G a_law)
  cases e
  have B0 := (and2 B).1
  replace B := (and2 B).2
  have B1 := (and2 B).1
  replace B := (and2 B).2
  have B2 := (and2 B).1
  replace B := (and2 B).2
  have B3 := (and2 B).1
  replace B := (and2 B).2
  have B4 := (and2 B).1
  replace B := (and2 B).2
  have B5 := (and2 B).1
  replace B := (and2 B).2
  have B6 := (and2 B).1
  replace B := (and2 B).2
  have B7 := (and2 B).1
  replace B := (and2 B).2
  have B8 := (and2 B).1
  replace B := (and2 B).2
  have B9 := (and2 B).1
  replace B := (and2 B).2
  have B10 := (and2 B).1
  replace B := (and2 B).2
  have B11 := (and2 B).1
  replace B := (and2 B).2
  have B12 := (and2 B).1
  replace B := (and2 B).2
  have B13 := (and2 B).1
  replace B := (and2 B).2
  have B14 := (and2 B).1
  replace B := (and2 B).2
  have B15 := (and2 B).1
  replace B := (and2 B).2
  have B16 := (and2 B).1
  replace B := (and2 B).2
  have B17 := (and2 B).1
  replace B := (and2 B).2
  have B18 := (and2 B).1
  replace B := (and2 B).2
  have B19 := (and2 B).1
  replace B := (and2 B).2
  have B20 := (and2 B).1
  replace B := (and2 B).2
  have B21 := (and2 B).1
  replace B := (and2 B).2
  have B22 := (and2 B).1
  replace B := (and2 B).2
  have B23 := (and2 B).1
  replace B := (and2 B).2
  have B24 := (and2 B).1
  replace B := (and2 B).2
  have B25 := (and2 B).1
  replace B := (and2 B).2
  have B26 := (and2 B).1
  replace B := (and2 B).2
  have B27 := (and2 B).1
  replace B := (and2 B).2
  have B28 := (and2 B).1
  replace B := (and2 B).2
  have B29 := (and2 B).1
  replace B := (and2 B).2
  have B30 := (and2 B).1
  replace B := (and2 B).2
  have B31 := (and2 B).1
  replace B := (and2 B).2
  have B32 := (and2 B).1
  replace B := (and2 B).2
  have B33 := (and2 B).1
  replace B := (and2 B).2
  have B34 := (and2 B).1
  replace B := (and2 B).2
  have B35 := (and2 B).1
  replace B := (and2 B).2
  have B36 := (and2 B).1
  replace B := (and2 B).2
  have B37 := (and2 B).1
  replace B := (and2 B).2
  have B38 := (and2 B).1
  replace B := (and2 B).2
  have B39 := (and2 B).1
  replace B := (and2 B).2
  have B40 := (and2 B).1
  replace B := (and2 B).2
  have B41 := (and2 B).1
  replace B := (and2 B).2
  have B42 := B
  replace B3 := of_decide_eq_true B3
  replace B4 := of_decide_eq_true B4
  replace B5 := of_decide_eq_true B5
  replace B6 := of_decide_eq_true B6
  replace B7 := of_decide_eq_true B7
  replace B8 := of_decide_eq_true B8
  replace B9 := of_decide_eq_true B9
  replace B10 := of_decide_eq_true B10
  replace B11 := of_decide_eq_true B11
  replace B14 := of_decide_eq_true B14
  replace B15 := of_decide_eq_true B15
  replace B17 := of_decide_eq_true B17
  replace B22 := of_decide_eq_true B22
  replace B23 := of_decide_eq_true B23
  replace B25 := of_decide_eq_true B25
  replace B26 := of_decide_eq_true B26
  replace B27 := of_decide_eq_true B27
  replace B28 := of_decide_eq_true B28
  replace B29 := of_decide_eq_true B29
  replace B31 := of_decide_eq_true B31
  replace B32 := of_decide_eq_true B32
  replace B33 := of_decide_eq_true B33
  replace B34 := of_decide_eq_true B34
  replace B35 := of_decide_eq_true B35
  replace B37 := of_decide_eq_true B37
  replace B38 := of_decide_eq_true B38
  replace B40 := of_decide_eq_true B40
  replace B41 := of_decide_eq_true B41
  replace B42 := of_decide_eq_true B42
  have F_whole := fun_mk (st := sWhole) l_whole e_whole k_whole
  have B_whole := F_whole.binds (ps := ["thing"]) (fun _ _ _ _ _ _ us hl => match us, hl with | [_], _ => rfl)
  have m_whole := PySem.W.mg_of X G a_whole
  have F_fromto := fun_mk (st := sFromTo) l_fromto e_fromto k_fromto
  have B_fromto := F_fromto.binds (ps := ["thing", "low", "high"]) (fun _ _ _ _ _ _ us hl => match us, hl with | [_, _, _], _ => rfl)
  have m_fromto := PySem.W.mg_of X G a_fromto
  have F_place := fun_mk (st := sPlace) l_place e_place k_place
  have B_place := F_place.binds (ps := ["thing", "size"]) (fun _ _ _ _ _ _ us hl => match us, hl with | [_, _], _ => rfl)
  have m_place := PySem.W.mg_of X G a_place
  have F_pair := fun_mk (st := sPair) l_pair e_pair k_pair
  have B_pair := F_pair.binds (ps := ["thing", "size"]) (fun _ _ _ _ _ _ us hl => match us, hl with | [_, _], _ => rfl)
  have m_pair := PySem.W.mg_of X G a_pair
  have F_tie := fun_mk (st := sTie) l_tie e_tie k_tie
  have B_tie := F_tie.binds (ps := ["thing", "size"]) (fun _ _ _ _ _ _ us hl => match us, hl with | [_, _], _ => rfl)
  have m_tie := PySem.W.mg_of X G a_tie
  have F_need := fun_mk (st := sNeed) l_need e_need k_need
  have B_need := F_need.binds (ps := ["size", "ties"]) (fun _ _ _ _ _ _ us hl => match us, hl with | [_, _], _ => rfl)
  have m_need := PySem.W.mg_of X G a_need
  have F_bundles := fun_mk (st := sBundles) l_bundles e_bundles k_bundles
  have B_bundles := F_bundles.binds (ps := ["ties"]) (fun _ _ _ _ _ _ us hl => match us, hl with | [_], _ => rfl)
  have m_bundles := PySem.W.mg_of X G a_bundles
  have F_bounds := fun_mk (st := sBounds) l_bounds e_bounds k_bounds
  have B_bounds := F_bounds.binds (ps := ["bundles"]) (fun _ _ _ _ _ _ us hl => match us, hl with | [_], _ => rfl)
  have m_bounds := PySem.W.mg_of X G a_bounds
  have F_degrees := fun_mk (st := sDegrees) l_degrees e_degrees k_degrees
  have B_degrees := F_degrees.binds (ps := ["size", "numbers"]) (fun _ _ _ _ _ _ us hl => match us, hl with | [_, _], _ => rfl)
  have m_degrees := PySem.W.mg_of X G a_degrees
  have F_sign := fun_mk (st := sSign) l_sign e_sign k_sign
  have B_sign := F_sign.binds (ps := ["at", "sign"]) (fun _ _ _ _ _ _ us hl => match us, hl with | [_, _], _ => rfl)
  have m_sign := PySem.W.mg_of X G a_sign
  have F_passes := fun_mk (st := sPass) l_passes e_passes k_passes
  have B_passes := F_passes.binds (ps := ["walk", "sign"]) (fun _ _ _ _ _ _ us hl => match us, hl with | [_, _], _ => rfl)
  have m_passes := PySem.W.mg_of X G a_passes
  have F_turned := fun_mk (st := sTurned) l_turned e_turned k_turned
  have B_turned := F_turned.binds (ps := ["web", "walk", "sign"]) (fun _ _ _ _ _ _ us hl => match us, hl with | [_, _, _], _ => rfl)
  have m_turned := PySem.W.mg_of X G a_turned
  have F_bag := fun_mk (st := sBag) l_bag e_bag k_bag
  have B_bag := F_bag.binds (ps := ["_law_script"]) (fun _ _ _ _ _ _ us hl => match us, hl with | [_], _ => rfl)
  have m_bag := PySem.W.mg_of X G a_bag
  have F_take := fun_mk (st := sTake) l_take e_take k_take
  have B_take := F_take.binds (ps := ["_law_bag_here", "_law_many"]) (fun _ _ _ _ _ _ us hl => match us, hl with | [_, _], _ => rfl)
  have m_take := PySem.W.mg_of X G a_take
  have F_one := fun_mk (st := sOne) l_one e_one k_one
  have B_one := F_one.binds (ps := ["_law_bag_here", "_law_menu"]) (fun _ _ _ _ _ _ us hl => match us, hl with | [_, _], _ => rfl)
  have m_one := PySem.W.mg_of X G a_one
  have F_grid := fun_mk (st := sGrid) l_grid e_grid k_grid
  have B_grid := F_grid.binds (ps := ["_law_size", "_law_ties"]) (fun _ _ _ _ _ _ us hl => match us, hl with | [_, _], _ => rfl)
  have m_grid := PySem.W.mg_of X G a_grid
  have F_walk := fun_mk (st := sWalk) l_walk e_walk k_walk
  have B_walk := F_walk.binds (ps := ["_law_bag_here", "_law_size"]) (fun _ _ _ _ _ _ us hl => match us, hl with | [_, _], _ => rfl)
  have m_walk := PySem.W.mg_of X G a_walk
  have F_beside := fun_mk (st := sBes) l_beside e_beside k_beside
  have B_beside := F_beside.binds (ps := ["_law_bag_here", "_law_size", "_law_sums_here"]) (fun _ _ _ _ _ _ us hl => match us, hl with | [_, _, _], _ => rfl)
  have m_beside := PySem.W.mg_of X G a_beside
  have F_sums := fun_mk (st := sSums) l_sums e_sums k_sums
  have B_sums := F_sums.binds (ps := ["_law_walk_here", "_law_sign"]) (fun _ _ _ _ _ _ us hl => match us, hl with | [_, _], _ => rfl)
  have m_sums := PySem.W.mg_of X G a_sums
  have F_told := fun_mk (st := sTold) l_told e_told k_told
  have B_told := F_told.binds (ps := ["_law_web", "_law_walk_here", "_law_sign"]) (fun _ _ _ _ _ _ us hl => match us, hl with | [_, _, _], _ => rfl)
  have m_told := PySem.W.mg_of X G a_told
  have F_law := fun_mk (st := sLaw) l_law e_law k_law
  have F_get := fun_mk (st := sGet) l_get e_get k_get
  have B_get := F_get.binds (ps := ["self", "at"]) (fun _ _ _ _ _ _ us hl => match us, hl with | [_, _], _ => rfl)
  have F_eq := fun_mk (st := sEq) l_eq e_eq k_eq
  have B_eq := F_eq.binds (ps := ["self", "other"]) (fun _ _ _ _ _ _ us hl => match us, hl with | [_, _], _ => rfl)
  have F_xT := fun_mk (st := sTM) l_xT e_xT k_xT
  have B_xT := F_xT.binds (ps := ["self", "limit"]) (fun _ _ _ _ _ _ us hl => match us, hl with | [_, _], _ => rfl)
  have F_xF := fun_mk (st := sTF) l_xF e_xF k_xF
  have B_xF := F_xF.binds (ps := ["self", "pair"]) (fun _ _ _ _ _ _ us hl => match us, hl with | [_, _], _ => rfl)
  have m_isinstance := PySem.W.mg_none_of X G z_isinstance
  have m_int := PySem.W.mg_none_of X G z_int
  have m_bool := PySem.W.mg_none_of X G z_bool
  have m_str := PySem.W.mg_none_of X G z_str
  have m_tuple := PySem.W.mg_none_of X G z_tuple
  have m_list := PySem.W.mg_none_of X G z_list
  have m_dict := PySem.W.mg_none_of X G z_dict
  have m_len := PySem.W.mg_none_of X G z_len
  have m_enumerate := PySem.W.mg_none_of X G z_enumerate
  have m_sorted := PySem.W.mg_none_of X G z_sorted
  have m_min := PySem.W.mg_none_of X G z_min
  have m_max := PySem.W.mg_none_of X G z_max
  have m_sum := PySem.W.mg_none_of X G z_sum
  have m_range := PySem.W.mg_none_of X G z_range
  have m_any := PySem.W.mg_none_of X G z_any
  have m_repr := PySem.W.mg_none_of X G z_repr
  have m_abs := PySem.W.mg_none_of X G z_abs
  have m_set := PySem.W.mg_none_of X G z_set
  have m_zip := PySem.W.mg_none_of X G z_zip
  have m_all := PySem.W.mg_none_of X G z_all
  have Bm : Bl mg := { m_isinstance := m_isinstance, m_int := m_int, m_bool := m_bool, m_str := m_str, m_tuple := m_tuple, m_list := m_list, m_dict := m_dict, m_len := m_len, m_enumerate := m_enumerate, m_sorted := m_sorted, m_min := m_min, m_max := m_max, m_sum := m_sum, m_range := m_range, m_any := m_any, m_repr := m_repr, m_abs := m_abs, m_set := m_set, m_zip := m_zip, m_all := m_all }
  have clE : Cls K C := ⟨B0, B1, B2, B3⟩
  have Tw : TxtW K mg C := ⟨clE, B4, B5, B6, B7, B8, m_sum⟩
  have GK : KindW K mg C := { ty := fun H a dx fs e => .base (.ins e clE B9 B14 B15 B10), own := B11, gW := PySem.W.mg_of X G aC, mi := m_isinstance }
  have mP : ∃ t, mg "MOST_PLACES" = some (.int 60 t) := ⟨_, PySem.W.mg_of X G c_mp⟩
  have mM : ∃ t, mg "MOST_TIES" = some (.int 1000000000 t) := ⟨_, PySem.W.mg_of X G c_mt⟩
  have OT : OexC K cT := ⟨⟨_, _, _, _, _, _, _, _, _, _, _, _, _, _, _, xLT, bVT⟩, B25, B22, B23, B24⟩
  have ET : ErrC K mg "TooMany" cT f_xT := ⟨PySem.W.mg_of X G acT, OT, a_xT, B26⟩
  have OF : OexC K cF := ⟨⟨_, _, _, _, _, _, _, _, _, _, _, _, _, _, _, xLF, bVF⟩, B31, B28, B29, B30⟩
  have EF : ErrC K mg "TooFew" cF f_xF := ⟨PySem.W.mg_of X G acF, OF, a_xF, B32⟩
  have DN : DnW K mg cT cF := { gT := PySem.W.mg_of X G acT, gF := PySem.W.mg_of X G acF, xT := ⟨B34, B35, B22, B36⟩, xF := ⟨B37, B38, B28, B39⟩, ff := B40, tf := B41, tt := B42, nT := B27, nF := B33 }
  subst cE
  have F_winit : L2.FunD K "__init__" "Web.__init__" (defArgs sInit) (defBody sInit) (defScope sInit) [.ref aE] [] f_winit (PySem.W.fnOf "__init__" "Web.__init__" (defArgs sInit) (defBody sInit) (defScope sInit) (.ref T0) kV_winit dc_winit pm_winit an_winit cd_winit ct_winit) :=
    ⟨⟨_, _, _, _, _, _, _, _, _, _, rfl, l_winit, e_winit, .inr ⟨by simp, T0, _, [.ref aE], nT, rfl, lT, rfl, .cons rfl .nil⟩, .inl rfl⟩, k_winit⟩
  have b0 : Binds K (PySem.W.fnOf "__init__" "Web.__init__" (defArgs sInit) (defBody sInit) (defScope sInit) (.ref T0) kV_winit dc_winit pm_winit an_winit cd_winit ct_winit) ["self", "size", "ties"] [] := by
    obtain ⟨ds, hv, hb⟩ := F_winit.binds1 (ps := ["self", "size", "ties"]) 3 1 (by simp) rfl (fun _ _ _ _ _ _ _ us its hl hi => match us, hl, its, hi with | [_, _, _], _, [_], _ => ⟨_, rfl, rfl⟩)
    cases hv
    exact hb
  have b1 : Binds K (PySem.W.fnOf "__init__" "Web.__init__" (defArgs sInit) (defBody sInit) (defScope sInit) (.ref T0) kV_winit dc_winit pm_winit an_winit cd_winit ct_winit) ["self", "size", "ties"] [.ref aE] := by
    obtain ⟨ds, hv, hb⟩ := F_winit.binds1 (ps := ["self", "size", "ties"]) 2 0 (by simp) rfl (fun _ _ _ _ _ _ _ us its hl hi => match us, hl, its, hi with | [_, _], _, [_], _ => ⟨_, rfl, rfl⟩)
    cases hv with
    | cons r t => cases t; cases (show _ = Value.ref aE from r); exact hb
  have hE : ∀ H, SqT K H aE [] := fun H => .inr ⟨_, #[], nE, lE, rfl, rfl, by decide, .nil⟩
  refine ⟨PySem.W.fnOf "law" "law" (defArgs sLaw) (defBody sLaw) (defScope sLaw) .none kV_law dc_law pm_law an_law cd_law ct_law, fun s u => .of_eq rfl, fun base _ _ => ?_⟩
  have W_whole : FnOk l.prog w K mg base CX0 1 f_whole _ ["thing"] (spWhole K) := ok_whole (k := 0) F_whole m_isinstance m_int m_bool
  have W_fromto : FnOk l.prog w K mg base CX0 2 f_fromto _ ["thing", "low", "high"] (spFromTo K) := ok_fromTo (k := 1) F_fromto W_whole m_whole k_whole B_whole
  have W_place : FnOk l.prog w K mg base CX0 3 f_place _ ["thing", "size"] (spPlace K) := ok_place (k := 2) F_place W_fromto m_fromto k_fromto B_fromto
  have W_pair : FnOk l.prog w K mg base CX0 4 f_pair _ ["thing", "size"] (spPair K) := ok_pair (k := 3) F_pair W_place m_place k_place B_place m_isinstance m_tuple m_len
  have W_tie : FnOk l.prog w K mg base CX0 5 f_tie _ ["thing", "size"] (spTie K) := ok_tie (k := 4) F_tie W_pair m_pair k_pair B_pair (W_fromto.mono (by decide)) m_fromto k_fromto B_fromto m_isinstance m_tuple m_len mM
  have W_need : FnOk l.prog w K mg base CX0 6 f_need _ ["size", "ties"] (spNeed K) := ok_need (k := 5) F_need W_tie m_tie k_tie B_tie (W_fromto.mono (by decide)) m_fromto k_fromto B_fromto m_isinstance m_tuple m_list m_enumerate mP
  have W_bounds : FnOk l.prog w K mg base CX0 1 f_bounds _ ["bundles"] (spBounds K) := ok_bounds (k := 0) F_bounds m_any mM
  have W_bundles : FnOk l.prog w K mg base CX0 2 f_bundles _ ["ties"] (spBundles K) := ok_bundles (k := 1) F_bundles W_bounds m_bounds k_bounds B_bounds m_sorted m_min m_max m_tuple
  have W_degrees : FnOk l.prog w K mg base CX0 1 f_degrees _ ["size", "numbers"] spDegrees := ok_degrees (k := 0) F_degrees m_tuple m_sum m_range
  have W_init : FnOk l.prog w K mg base CX0 7 f_winit _ ["self", "size", "ties"] (spInit K C) :=
    ok_init (k := 6) F_winit Tw W_need m_need k_need B_need (W_bundles.mono (by decide)) m_bundles k_bundles B_bundles (W_degrees.mono (by decide)) m_degrees k_degrees B_degrees
  have MWeb : MkWeb l.prog w K mg base C := ⟨⟨f_winit, _, aE, ⟨B12, a_winit, B18, B13⟩, W_init, PySem.W.mg_of X G aC, b0, b1, hE⟩⟩
  have G_eq : FnOk l.prog w K mg base CX0 1 f_eq _ ["self", "other"] (spEqW K C) := ok_eq (k := 0) F_eq Tw GK
  have EQ : EqW l.prog w K mg base C 10 f_eq _ := { Q := G_eq.mono (by decide), bQ := B_eq, ty := GK.ty, nf := B16, ne := B17, ob := B10, sQ := a_eq, iQ := B19 }
  have I_T : ErrI l.prog w K mg base f_xT _ ["self", "limit"] (spI1 cT "limit") := ⟨ok_iTM F_xT OT B27, B_xT⟩
  have I_F : ErrI l.prog w K mg base f_xF _ ["self", "pair"] (spI1 cF "pair") := ⟨ok_iTF F_xF OF B33, B_xF⟩
  have G_get : FnOk l.prog w K mg base CX0 1 f_get _ ["self", "at"] (spGet K C) := ok_get (k := 0) F_get Tw
  have GG : GetW l.prog w K mg base C 8 f_get _ := { G := G_get.mono (by decide), bG := B_get, sG := a_get, nG := B21, iG := B20 }
  have G_sign : FnOk l.prog w K mg base CX0 1 f_sign _ ["at", "sign"] (spSign) := ok_sign F_sign Bm
  have O_sign : Own l.prog w K mg base CX0 1 "_sign_at" ["at", "sign"] (spSign) := ⟨⟨f_sign, _, G_sign, m_sign, k_sign, B_sign⟩⟩
  have G_passes : FnOk l.prog w K mg base CX0 2 f_passes _ ["walk", "sign"] (spPass K) := ok_passes F_passes Bm O_sign
  have O_passes : Own l.prog w K mg base CX0 2 "_passes" ["walk", "sign"] (spPass K) := ⟨⟨f_passes, _, G_passes, m_passes, k_passes, B_passes⟩⟩
  have G_turned : FnOk l.prog w K mg base (L2N.CX l.prog w) 10 f_turned _ ["web", "walk", "sign"] (spTurned K C cT cF) := ok_turned F_turned Bm Tw MWeb GG EF I_F ET I_T mM O_passes
  have O_turned : Own l.prog w K mg base (L2N.CX l.prog w) 10 "turned" ["web", "walk", "sign"] (spTurned K C cT cF) := ⟨⟨f_turned, _, G_turned, m_turned, k_turned, B_turned⟩⟩
  have G_bag : FnOk l.prog w K mg base CX0 1 f_bag _ ["_law_script"] (spBag K) := ok_bag (k := 0) F_bag m_abs
  have O_bag : Own l.prog w K mg base CX0 1 "_law_bag" ["_law_script"] (spBag K) := ⟨⟨f_bag, _, G_bag, m_bag, k_bag, B_bag⟩⟩
  have G_take : FnOk l.prog w K mg base CX0 1 f_take _ ["_law_bag_here", "_law_many"] (spTake) := ok_take (k := 0) F_take m_len m_int
  have O_take : Own l.prog w K mg base CX0 1 "_law_take" ["_law_bag_here", "_law_many"] (spTake) := ⟨⟨f_take, _, G_take, m_take, k_take, B_take⟩⟩
  have G_one : FnOk l.prog w K mg base CX0 2 f_one _ ["_law_bag_here", "_law_menu"] (spOne) := ok_one F_one Bm O_take
  have O_one : Own l.prog w K mg base CX0 2 "_law_one" ["_law_bag_here", "_law_menu"] (spOne) := ⟨⟨f_one, _, G_one, m_one, k_one, B_one⟩⟩
  have G_grid : FnOk l.prog w K mg base CX0 1 f_grid _ ["_law_size", "_law_ties"] (spGrid K) := ok_grid F_grid Bm
  have O_grid : Own l.prog w K mg base CX0 1 "_law_grid" ["_law_size", "_law_ties"] (spGrid K) := ⟨⟨f_grid, _, G_grid, m_grid, k_grid, B_grid⟩⟩
  have G_walk : FnOk l.prog w K mg base CX0 3 f_walk _ ["_law_bag_here", "_law_size"] (spWalk) := ok_walk F_walk Bm O_take O_one
  have O_walk : Own l.prog w K mg base CX0 3 "_law_walk" ["_law_bag_here", "_law_size"] (spWalk) := ⟨⟨f_walk, _, G_walk, m_walk, k_walk, B_walk⟩⟩
  have G_beside : FnOk l.prog w K mg base CX0 3 f_beside _ ["_law_bag_here", "_law_size", "_law_sums_here"] (spBes K) := ok_beside F_beside Bm O_take O_one
  have O_beside : Own l.prog w K mg base CX0 3 "_law_beside" ["_law_bag_here", "_law_size", "_law_sums_here"] (spBes K) := ⟨⟨f_beside, _, G_beside, m_beside, k_beside, B_beside⟩⟩
  have G_sums : FnOk l.prog w K mg base CX0 1 f_sums _ ["_law_walk_here", "_law_sign"] (spSums K) := ok_sums F_sums Bm
  have O_sums : Own l.prog w K mg base CX0 1 "_law_sums" ["_law_walk_here", "_law_sign"] (spSums K) := ⟨⟨f_sums, _, G_sums, m_sums, k_sums, B_sums⟩⟩
  have G_told : FnC l.prog w K mg base CX0 11 f_told _ ["_law_web", "_law_walk_here", "_law_sign"] (spTold K C) := ok_told F_told Bm Tw GK DN G_turned m_turned k_turned B_turned
  exact ok_law F_law Bm Tw MWeb EQ O_bag O_take O_one O_walk O_sums O_grid O_beside O_turned G_told m_told k_told B_told
end T77
/-! The end of a law, the guards known. -/
namespace Wk
open PySem PySem.Spec PyProof.Rows L2
theorem law_callC {P : Program} {w : World} {K : PySem.W.Frag} {mg mb : Str → Option Value} {k : Nat} {fa a : Addr} {fd : FuncData} {x : Str} {sp : Sp} {s₁ : Shared} {vs : List Value} {ns : List Int}
    (KX : K.In s₁.heap) (hns : s₁.heap.Ns mainGlobals mg) (hb : s₁.heap.Ns builtinsNs mb) (hbb : ∀ x : Str, x ≠ "__name__" → mb x = bootBuiltins x) (hlim : s₁.heap.NoLimit) (hg : s₁.gens = #[])
    (ha : s₁.heap.get? a = some { cls := .type "list", data := .seq vs.toArray }) (hi : IntsAre vs ns) (hl : ns.length ≤ sizeLine) (hr : Room k callerA)
    (F : ∀ base : Heap, K.In base → base.Ns mainGlobals mg → FnC P w K mg base CX0 k fa fd [x] sp) (hbind : ∀ (s : Shared) (u : Value), BindsTo s fd ⟨[u], []⟩ [(x, u)])
    (hsp : ∀ H : Hp, Only H → SqL K H a (ns.map V.int) → sp [.ref a] H (fun v _ => v = .bl true) fun _ _ _ => False) :
    codeAny (model P w) callerA (.call (.ref fa) ⟨[.ref a], []⟩) (fun r s' => r = .ok (.ret (.bool true)) ∧ OldK s₁.heap s'.heap ∧ s'.os = s₁.os ∧ AllBare s'.gens) s₁ := by
  have rints := vals_ints hi
  have hlen := hi.length
  have main : ∀ H : Hp, Only H → SqL K H a (ns.map V.int) → HOk P w H s₁.heap → (∀ b, H b ≠ none → b = a) → (H a ≠ none → K.lookup a = none) →
      codeAny (model P w) callerA (.call (.ref fa) ⟨[.ref a], []⟩) (fun r s' => r = .ok (.ret (.bool true)) ∧ OldK s₁.heap s'.heap ∧ s'.os = s₁.os ∧ AllBare s'.gens) s₁ := by
    intro H hO hS hok hA hK
    have free : ∀ {b : Addr} {o : Obj} {es : Array DictEntry} {ep : Nat}, s₁.heap.get? b = some o → o.data = .dict es ep → H b = none := by
      intro b o es ep e d
      cases q : H b with
      | none => rfl
      | some u =>
        have hba : b = a := hA b (by rw [q]; exact fun z => nomatch z)
        rw [hba, ha] at e
        cases e
        exact nomatch (show Data.seq vs.toArray _ = Data.dict es ep from d)
    have nsH : ∀ {b : Addr} {m : Str → Option Value}, s₁.heap.Ns b m → (hidT s₁.heap H).Ns b m := by
      rintro b m ⟨o, es, ep, e, d, r⟩
      exact ⟨o, es, ep, hidT_get e (free e d), d, r⟩
    have kinH : K.In (hidT s₁.heap H) := by
      intro b o e
      refine hidT_get (KX b o e) ?_
      cases q : H b with
      | none => rfl
      | some u =>
        have hba : b = a := hA b (by rw [q]; exact fun z => nomatch z)
        rw [hba] at e q
        rw [hK (by rw [q]; exact fun z => nomatch z)] at e
        exact nomatch e
    have hM : Mod K mg (hidT s₁.heap H) := ⟨kinH, nsH hns, ⟨mb, nsH hb, hbb⟩, let ⟨mc, h1, h2⟩ := hlim; ⟨mc, nsH h1, h2⟩⟩
    have e0 : Env0 P w K mg (hidT s₁.heap H) callerA [] s₁ H := ⟨rfl, hM, fun b o e => of_hidT e, Nat.le_of_eq (hidT_size _ _), trivial, (fun b hb => nomatch (show b ∈ ([] : List Addr) from hb)), hok, .of_eq hg⟩
    refine codeAny_mono ((F _ kinH (nsH hns)).run callerA [] s₁ H ⟨[.ref a], []⟩ [.ref a] [.ref a] _ _ hr rfl e0 (hbind s₁ (.ref a)) (.cons rfl .nil) (hsp H hO hS)) (fun r s' h => ?_)
    match r, h with
    | .ok (.ret u), h =>
      obtain ⟨v, H', os, bare, un, hok', r', q⟩ := h
      have q' : v = .bl true := q
      subst q'
      obtain rfl : u = Value.bool true := r'
      refine ⟨rfl, OldK.of_keep (fun b o e => ?_), os, bare⟩
      cases q : H b with
      | none => exact un.keep b o e q (fun z => nomatch (show b ∈ ([] : List Addr) from z)) (fun z => nomatch z)
      | some u =>
        rcases hO b with z | ⟨ob, xs, z⟩
        · rw [q] at z; exact nomatch z
        · obtain ⟨e1, _⟩ := hok b _ z
          obtain ⟨e2, _⟩ := hok' b _ (un.frzs b ob _ z)
          rw [e] at e1
          rw [Option.some.inj e1]; exact e2
  cases hk : K.lookup a with
  | some o =>
    have e := (KX a o hk).symm.trans ha
    cases e
    exact main (fun _ => none) (fun _ => .inl rfl) (.inr ⟨_, vs.toArray, _, hk, rfl, rfl, rfl, by rw [List.size_toArray, hlen]; exact hl, by simpa using rints⟩) (fun b u z => nomatch (show (none : Option HO) = some u from z)) (fun b z => absurd rfl z) (fun z => absurd rfl z)
  | none =>
    refine main (fun b => if b = a then some (.frz { cls := .type "list", data := .seq vs.toArray } (.lst (ns.map V.int))) else none) (fun b => ?_) (.inl (.inr ⟨{ cls := .type "list", data := .seq vs.toArray }, if_pos rfl⟩)) (fun b u z => ?_) (fun b z => ?_) (fun _ => hk)
    · by_cases hba : b = a
      · exact .inr ⟨_, _, if_pos hba⟩
      · exact .inl (if_neg hba)
    · by_cases hba : b = a
      · have z' := (if_pos hba).symm.trans z
        cases z'
        rw [hba]
        exact ⟨ha, by rw [List.length_map]; exact hl, vs, _, rints, ha⟩
      · exact nomatch (if_neg hba).symm.trans z
    · by_cases hba : b = a
      · exact hba
      · exact absurd (if_neg hba) z
theorem walk_ofC {l : PySem.W.OpenLaw} {n k : Nat} {q : Program} {loose : List Str} {XP : (Str → Option Value) → Heap → Prop} {YP : World → Heap → Prop} {d : DefRec} {K : Params → PySem.W.Frag} {sp : World → Sp} {x : Str}
    (hn : l.most = some n) (hn2 : n ≤ sizeLine) (hdf : d.params.defaults = []) (hr : Room k callerA) (hY : ∀ (w : World) (h : Heap), YP w h → (K w.params).In h)
    (F : ∀ (w : World) (mg : Str → Option Value) (fa : Addr) (h : Heap), (K w.params).In h → h.Ns mainGlobals mg → mg d.name = some (.ref fa) →
      ∃ fd : FuncData, (∀ (s : Shared) (u : Value), BindsTo s fd ⟨[u], []⟩ [(x, u)]) ∧ ∀ base : Heap, (K w.params).In base → base.Ns mainGlobals mg → FnC l.prog w (K w.params) mg base CX0 k fa fd [x] (sp w))
    (hsp : ∀ (w : World) (H : Hp) (a : Addr) (ns : List Int), ns.length ≤ n → Only H → SqL (K w.params) H a (ns.map V.int) → sp w [.ref a] H (fun v _ => v = .bl true) fun _ _ _ => False) :
    PySem.W.WalkO q loose XP YP l.row.toRowW d [] (fun f vs => PySem.call f vs) := by
  refine Att.attach_call hn hdf (fun w s₀ s₁ mg mb fa o pm cd doc a vs ns G Y ho hd hcd hmg hobj hints hlen hg => ?_)
  have KX := hY w _ Y
  obtain ⟨fd, hb, hF⟩ := F w mg fa _ KX G.T.g hmg
  exact law_callC KX G.T.g G.T.b G.T.builtins G.T.nolimit hg hobj hints (Nat.le_trans hlen hn2) hr hF hb (fun H hO hS => hsp w H a ns hlen hO hS)
end Wk
open PySem PySem.W PyProof.Rows
set_option maxRecDepth 100000 in
set_option maxHeartbeats 0 in
theorem PySem.Challenge.cw_contentties_k77_bundles_turned_holds : PySem.Challenge.rw_contentties_k77_bundles_turned.Holds := by
  w_on; o_law; k_head; (case hw => w_witness2)
  k_fill
  refine Wk.walk_ofC (l := PySem.Challenge.rw_contentties_k77_bundles_turned) (n := 63) (k := 12) (x := "_law_script") rfl (by decide) rfl ⟨rfl, by decide, by decide⟩ (fun w h Y => PySem.W.kIn_of Y) ?F (sp := fun w => T77.spLaw _) (fun _ _ a ns hl _ hS => ⟨a, ns, rfl, hS, hl, fun _ => rfl⟩)
  case F =>
    intro w mg fa h KX G hmg
    refine' T77.all_mk KX G hmg ?aC ?acT ?acF ?c_mp ?c_mt ?xLT ?bVT ?xLF ?bVF ?a_whole ?l_whole ?e_whole ?k_whole ?a_fromto ?l_fromto ?e_fromto ?k_fromto ?a_place ?l_place ?e_place ?k_place ?a_pair ?l_pair ?e_pair ?k_pair ?a_tie ?l_tie ?e_tie ?k_tie ?a_need ?l_need ?e_need ?k_need ?a_bundles ?l_bundles ?e_bundles ?k_bundles ?a_bounds ?l_bounds ?e_bounds ?k_bounds ?a_degrees ?l_degrees ?e_degrees ?k_degrees ?a_sign ?l_sign ?e_sign ?k_sign ?a_passes ?l_passes ?e_passes ?k_passes ?a_turned ?l_turned ?e_turned ?k_turned ?a_bag ?l_bag ?e_bag ?k_bag ?a_take ?l_take ?e_take ?k_take ?a_one ?l_one ?e_one ?k_one ?a_grid ?l_grid ?e_grid ?k_grid ?a_walk ?l_walk ?e_walk ?k_walk ?a_beside ?l_beside ?e_beside ?k_beside ?a_sums ?l_sums ?e_sums ?k_sums ?a_told ?l_told ?e_told ?k_told ?a_law ?l_law ?e_law ?k_law ?a_winit ?l_winit ?e_winit ?k_winit ?lT ?lE ?cE ?a_get ?l_get ?e_get ?k_get ?a_eq ?l_eq ?e_eq ?k_eq ?a_xT ?l_xT ?e_xT ?k_xT ?a_xF ?l_xF ?e_xF ?k_xF ?z_isinstance ?z_int ?z_bool ?z_str ?z_tuple ?z_list ?z_dict ?z_len ?z_enumerate ?z_sorted ?z_min ?z_max ?z_sum ?z_range ?z_any ?z_repr ?z_abs ?z_set ?z_zip ?z_all ?B
    (case aC => k_is)
    (case acT => k_is)
    (case acF => k_is)
    (case c_mp => k_is)
    (case c_mt => k_is)
    (case xLT => k_is)
    (case bVT => rfl)
    (case xLF => k_is)
    (case bVF => rfl)
    (case a_whole => k_is)
    (case l_whole => k_is)
    (case e_whole => k_is)
    (case k_whole => k_is)
    (case a_fromto => k_is)
    (case l_fromto => k_is)
    (case e_fromto => k_is)
    (case k_fromto => k_is)
    (case a_place => k_is)
    (case l_place => k_is)
    (case e_place => k_is)
    (case k_place => k_is)
    (case a_pair => k_is)
    (case l_pair => k_is)
    (case e_pair => k_is)
    (case k_pair => k_is)
    (case a_tie => k_is)
    (case l_tie => k_is)
    (case e_tie => k_is)
    (case k_tie => k_is)
    (case a_need => k_is)
    (case l_need => k_is)
    (case e_need => k_is)
    (case k_need => k_is)
    (case a_bundles => k_is)
    (case l_bundles => k_is)
    (case e_bundles => k_is)
    (case k_bundles => k_is)
    (case a_bounds => k_is)
    (case l_bounds => k_is)
    (case e_bounds => k_is)
    (case k_bounds => k_is)
    (case a_degrees => k_is)
    (case l_degrees => k_is)
    (case e_degrees => k_is)
    (case k_degrees => k_is)
    (case a_sign => k_is)
    (case l_sign => k_is)
    (case e_sign => k_is)
    (case k_sign => k_is)
    (case a_passes => k_is)
    (case l_passes => k_is)
    (case e_passes => k_is)
    (case k_passes => k_is)
    (case a_turned => k_is)
    (case l_turned => k_is)
    (case e_turned => k_is)
    (case k_turned => k_is)
    (case a_bag => k_is)
    (case l_bag => k_is)
    (case e_bag => k_is)
    (case k_bag => k_is)
    (case a_take => k_is)
    (case l_take => k_is)
    (case e_take => k_is)
    (case k_take => k_is)
    (case a_one => k_is)
    (case l_one => k_is)
    (case e_one => k_is)
    (case k_one => k_is)
    (case a_grid => k_is)
    (case l_grid => k_is)
    (case e_grid => k_is)
    (case k_grid => k_is)
    (case a_walk => k_is)
    (case l_walk => k_is)
    (case e_walk => k_is)
    (case k_walk => k_is)
    (case a_beside => k_is)
    (case l_beside => k_is)
    (case e_beside => k_is)
    (case k_beside => k_is)
    (case a_sums => k_is)
    (case l_sums => k_is)
    (case e_sums => k_is)
    (case k_sums => k_is)
    (case a_told => k_is)
    (case l_told => k_is)
    (case e_told => k_is)
    (case k_told => k_is)
    (case a_law => k_is)
    (case l_law => k_is)
    (case e_law => k_is)
    (case k_law => k_is)
    (case a_winit => k_is)
    (case l_winit => k_is)
    (case e_winit => k_is)
    (case k_winit => k_is)
    (case lT => k_is)
    (case lE => k_is)
    (case cE => rfl)
    (case a_get => k_is)
    (case l_get => k_is)
    (case e_get => k_is)
    (case k_get => k_is)
    (case a_eq => k_is)
    (case l_eq => k_is)
    (case e_eq => k_is)
    (case k_eq => k_is)
    (case a_xT => k_is)
    (case l_xT => k_is)
    (case e_xT => k_is)
    (case k_xT => k_is)
    (case a_xF => k_is)
    (case l_xF => k_is)
    (case e_xF => k_is)
    (case k_xF => k_is)
    (case z_isinstance => k_is)
    (case z_int => k_is)
    (case z_bool => k_is)
    (case z_str => k_is)
    (case z_tuple => k_is)
    (case z_list => k_is)
    (case z_dict => k_is)
    (case z_len => k_is)
    (case z_enumerate => k_is)
    (case z_sorted => k_is)
    (case z_min => k_is)
    (case z_max => k_is)
    (case z_sum => k_is)
    (case z_range => k_is)
    (case z_any => k_is)
    (case z_repr => k_is)
    (case z_abs => k_is)
    (case z_set => k_is)
    (case z_zip => k_is)
    (case z_all => k_is)
    (case B => kernel_rfl)
