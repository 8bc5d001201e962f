import PyProof.Rows.All
import Wide.All
import OpenK.AllK
import Wide.FinOn
import HandS.ForMost
import HandS.ForExc
import HandS.HotCalls
import HandS.ExcInit
import HandS.ExcIs
import HandS.ExcField
import HandS.ExcValue
import HandS.IsInst
import PyProof.ReprRoads
import HandS.OwnEq
import HandS.DictComp
import HandS.Dict
import HandS.Comp
import HandS.TupSets
import HandS.Conv
import KE.GoesEnum
import KE.GoesMore
import HandS.Iter
import HandS.Wide
import HandS.Codes
import HandS.Walk
import HandS.TupAny
import HandS.Flow
import HandS.Defaults
import HandS.Style
import KE.KExcIs
import HandS.Star
import KE.KOpsOwn
import PyProof.ListMulRight
import PyProof.TwoTypes
import HandS.ExcOwn
import HandS.SetFor
import HandS.RaiseMore
import HandS.Ends
import PySem.Challenge.RW_contentties_k22_webs_refused
set_option Elab.async false
set_option linter.all false
set_option maxRecDepth 100000
set_option maxHeartbeats 8000000
/-! Contracts of defs where it is known that no repr is under way (guards), calm or within an except suite. -/
namespace Wk
open PySem PySem.Spec PyProof.Rows L2

/-- no repr and the like is under way -/
def Gd (A : Around) : Prop := A.guards = some []
theorem Gd.deeper {A : Around} (g : Gd A) (env : Env) : Gd (A.deeper env) := g
theorem Gd.mark {A : Around} (g : Gd A) (v : Option Value) : Gd (A.mark v) := g

/-- the body's context, calm or not, with pins -/
def cxG (CX : CXT) (P : Program) (w : World) (K : PySem.W.Frag) (mg : Str → Option Value) (base : Heap) (N : List Str) (qual : Str) (scope : Scope) (f : Addr) (cd : Value) (A : Around)
    (outer : List Env) (s : Shared) (H : Hp) (E : XK) (c : Bool) (pn : List (Addr × Obj)) : Cx :=
  { cxOf CX P w K mg base N qual scope f cd A outer s H E with calm := c, pn := pn }

section
variable {CX : CXT} {P : Program} {w : World} {K : PySem.W.Frag} {mg : Str → Option Value} {base : Heap}
/-- one run of a def's body, at one entry -/
theorem body_run {f : Addr} {name qual : Str} {params : Arguments} {body : List Stmt} {scope : Scope} {dV kV doc pm cdv ct oc : Value} {an od : Option Addr} {osl : Array (Option Value)} {N ps : List Str}
    {A : Around} {outer : List Env} {s : Shared} {H : Hp} {args : Args} {us : List Value} {vs : List V} {Q : VK} {E : XK} {c : Bool} {pn : List (Addr × Obj)} {t : TS}
    (lk : K.lookup f = some ⟨oc, od, .func (PySem.W.fnOf name qual params body scope dV kV doc pm an cdv ct), osl⟩) (hcd : PySem.W.codeIn K cdv qual = true) (S : FnScope N ps scope)
    (hdp : A.depth < recursionLimit) (e0 : Env0 P w K mg base A outer s H) (hb : BindsTo s (PySem.W.fnOf name qual params body scope dV kV doc pm an cdv ct) args (ps.zip us))
    (hI : ∀ s1, InCallC s s.heap.objs.size (bindL (envOfC qual scope s.heap.objs.size f cdv).kindOf (ps.zip us) fun _ => none) (cellsFrom (s.heap.objs.size + 1) scope.names [])
      (bindC (envOfC qual scope s.heap.objs.size f cdv).kindOf (ps.zip us) fun _ => none) s1 → Inv (cxG CX P w K mg base N qual scope f cdv A outer s H E c pn) [] (start N vs) H s1)
    (ht : PSs (cxG CX P w K mg base N qual scope f cdv A outer s H E c pn) body t) (hq : t { nx := fun _ H' => Q .non H', rt := Q } (start N vs) H) :
    codeAny (model P w) A (.call (.ref f) args) (CR CX outer P w H s Q E) s := by
  have hin := e0.mod.kin.keeps (fun b o z => (e0.bs b o z).1)
  have hlim := e0.mod.nolimit.keeps (fun b o z => (e0.bs b o z).1)
  have hk : ∀ y ∈ ps.zip us, scope.names.lookup y.1 = some .local ∨
      (scope.names.lookup y.1 = some .cell ∧ ((cellsFrom (s.heap.objs.size + 1) scope.names []).lookup y.1).isSome = true) := by
    rintro ⟨n, v⟩ hy
    have hn := S.par n (List.of_mem_zip hy).1
    exact hn.elim Or.inl (fun q => Or.inr ⟨q, PySem.W.cellsFrom_some _ _ _ (.inl q)⟩)
  refine codeAny_call_function hdp (hin _ _ lk) rfl S.co S.gen rfl (PySem.W.codeRec_of hin hcd) (hb _ _ _ _ ?_)
  refine wpAny_newFunctionEnv_cells S.kind hk (fun env he s1 x => ?_)
  cases he
  refine ⟨hlim.keeps x.toInCall.keep, codeAny_func ?_⟩
  refine wpAny_mono (ht.run [] s1 (start N vs) H _ (hI s1 x) hq) (fun fl s' hs => ?_) (fun e s' hs => hs)
  cases fl with
  | ret u => obtain ⟨v, _, H', J, rv, q⟩ := hs; exact ⟨v, H', J.os, J.bare, J.base, J.hok, rv, q⟩
  | next => obtain ⟨_, H', J, q⟩ := hs; exact ⟨V.non, H', J.os, J.bare, J.base, J.hok, rfl, q⟩
  | brk => obtain ⟨_, _, _, q⟩ := hs; exact q.elim
  | cont => obtain ⟨_, _, _, q⟩ := hs; exact q.elim

/-! ### calm, the guards known -/
structure FnC (P : Program) (w : World) (K : PySem.W.Frag) (mg : Str → Option Value) (base : Heap) (CX : CXT) (k : Nat) (f : Addr) (fd : FuncData) (ps : List Str) (sp : Sp) : Prop where
  len : ∀ vs H Q E, sp vs H Q E → vs.length = ps.length
  run : ∀ (A : Around) (outer : List Env) (s : Shared) (H : Hp) (args : Args) (us : List Value) (vs : List V) (Q : VK) (E : XK), Room k A → Gd A →
    Env0 P w K mg base A outer s H → BindsTo s fd args (ps.zip us) → Vals vs us → sp vs H Q E → codeAny (model P w) A (.call (.ref f) args) (CR CX outer P w H s Q E) s
theorem ofOk {k : Nat} {f : Addr} {fd : FuncData} {ps : List Str} {sp : Sp} (F : FnOk P w K mg base CX k f fd ps sp) : FnC P w K mg base CX k f fd ps sp :=
  ⟨F.len, fun A outer s H args us vs Q E hr _ => F.run A outer s H args us vs Q E hr⟩
theorem okC {x qual : Str} {st : Stmt} {f : Addr} {fd : FuncData} {N ps : List Str} {k : Nat} {sp : Sp} (F : Fun K x qual st f fd) (S : FnScope N ps (defScope st)) (len : ∀ vs H Q E, sp vs H Q E → vs.length = ps.length)
    (hbody : ∀ (cdv : Value) (A : Around) (outer : List Env) (s : Shared) (H : Hp) (vs : List V) (Q : VK) (E : XK), Room k (A.deeper (envOfC qual (defScope st) s.heap.objs.size f cdv)) → Gd A → sp vs H Q E →
      ∃ t, PSs (cxOf CX0 P w K mg base N qual (defScope st) f cdv A outer s H E).nox (defBody st) t ∧ t { nx := fun _ H' => Q .non H', rt := Q } (start N vs) H) :
    FnC P w K mg base CX0 (k + 1) f fd ps sp := by
  obtain ⟨oc, od, kV, doc, pm, an, cdv, ct, osl, rfl, lk, hcd⟩ := F.ex
  refine ⟨len, fun A outer s H args us vs Q E hr hg e0 hb r hsp => ?_⟩
  obtain ⟨t, h, q⟩ := hbody cdv A outer s H vs Q E (hr.deeper _) hg hsp
  exact body_run (c := true) (pn := []) lk hcd S hr.depth e0 hb (fun s1 x => inv_start S hr.hd e0 (len _ _ _ _ hsp) r x) h.nox q
end

section
variable {X : Cx} {k : Nat} {f : Addr} {fd : FuncData} {ps : List Str} {sp : Sp} {x : Str} {p pos : Pos} {e : Expr} {es : List Expr} {t : TA}
theorem run_C {pins : List (Addr × Obj)} {σ : L2.St} {H : Hp} {s : Shared} {Q : VK} {us : List Value} {vs : List V} (F : FnC X.prog X.w X.K X.mg X.base CX0 k f fd ps sp) (hr : Room k X.A) (hg : Gd X.A)
    (hb : Binds X.K fd ps []) (I : Inv X pins σ H s) (r : Vals vs us) (h : sp vs H Q E0) : wpAny (model X.prog X.w) X.A (call (.ref f) us) (EP X pins σ Q) X.xe s := by
  have hl : (us ++ []).length = ps.length := by rw [List.append_nil, ← r.length]; exact F.len _ _ _ _ h
  have b := hb s us I.kIn hl
  rw [List.append_nil] at b
  refine wpAny_call (codeAny_mono (F.run X.A X.stack s H ⟨us, []⟩ us vs Q E0 hr hg I.env0 b r h) (fun res s' hq => ?_))
  match res, hq with
  | .ok (.ret u), hq => exact I.after hq
theorem pe_callC (F : FnC X.prog X.w X.K X.mg X.base CX0 k f fd ps sp) (hr : Room k X.A) (hgd : Gd X.A) (hg : Gl X x) (hm : X.mg x = some (.ref f)) (hk : PySem.W.keepIn X.K (.ref f) = true) (hb : Binds X.K fd ps [])
    (ha : PA X (e :: es) t) (hdb : (x == ("__debug__" : Str)) = false := by decide) (he : starEach (e :: es) X.env = (false, eval e X.env) :: starEach es X.env := by rfl)
    (hpl : (backTo pos (starEach es X.env)).any (·.1) = false := by rfl) : PE X (.Call (.Name x p) (e :: es) [] pos) (tCall sp [] E0 t) := by
  refine ⟨fun pins s σ H Q I h => wpAny_Call_Name_kw (ld_glob I hg hm ?_ hdb)⟩
  refine PySem.W.callWith_K (h₀ := X.base) I.ok.mod.kin hk (thn (ha.run pos pins s σ H _ I h) (fun us s1 hq => ?_)) he hpl
  obtain ⟨vs, H1, I1, r, q⟩ := hq
  rw [List.append_nil] at q
  exact ⟨I1.kIn, run_C F hr hgd hb I1 r q⟩
theorem pe_callC0 (F : FnC X.prog X.w X.K X.mg X.base CX0 k f fd ps sp) (hr : Room k X.A) (hgd : Gd X.A) (hg : Gl X x) (hm : X.mg x = some (.ref f)) (hk : PySem.W.keepIn X.K (.ref f) = true) (hb : Binds X.K fd ps [])
    (hdb : (x == ("__debug__" : Str)) = false := by decide) : PE X (.Call (.Name x p) [] [] pos) (tCall sp [] E0 tNil) := by
  refine ⟨fun pins s σ H Q I h => wpAny_Call_Name_kw (ld_glob I hg hm ?_ hdb)⟩
  exact PySem.W.callWith_K0 I.kIn hk (run_C (us := []) F hr hgd hb I .nil h)
end

/-! ### within an except suite: the exception at a, of the class cls, with the dict d -/
/-- a promise that speaks of the handled exception -/
abbrev SpE := Addr → Value → Option Addr → Sp
structure FnE (P : Program) (w : World) (K : PySem.W.Frag) (mg : Str → Option Value) (base : Heap) (k : Nat) (f : Addr) (fd : FuncData) (ps : List Str) (sp : SpE) : Prop where
  len : ∀ a cls d vs H Q E, sp a cls d vs H Q E → vs.length = ps.length
  run : ∀ (A : Around) (outer : List Env) (s : Shared) (H : Hp) (args : Args) (us : List Value) (vs : List V) (Q : VK) (E : XK) (a : Addr) (oe : Obj) (cls : Value) (d : Option Addr),
    L2H.RoomH k A → Gd A → L2H.Hot1 A (a, oe) → Zc cls d oe → L2H.PinOk outer H s (a, oe) →
    Env0 P w K mg base A outer s H → BindsTo s fd args (ps.zip us) → Vals vs us → sp a cls d vs H Q E → codeAny (model P w) A (.call (.ref f) args) (CR CX0 outer P w H s Q E) s
section
variable {P : Program} {w : World} {K : PySem.W.Frag} {mg : Str → Option Value} {base : Heap}
theorem okE {x qual : Str} {st : Stmt} {f : Addr} {fd : FuncData} {N ps : List Str} {k : Nat} {sp : SpE} (F : Fun K x qual st f fd) (S : FnScope N ps (defScope st)) (len : ∀ a cls d vs H Q E, sp a cls d vs H Q E → vs.length = ps.length)
    (hbody : ∀ (cdv : Value) (A : Around) (outer : List Env) (s : Shared) (H : Hp) (vs : List V) (Q : VK) (E : XK) (a : Addr) (oe : Obj) (cls : Value) (d : Option Addr),
      L2H.RoomH k (A.deeper (envOfC qual (defScope st) s.heap.objs.size f cdv)) → Gd A → L2H.Hot1 A (a, oe) → Zc cls d oe → sp a cls d vs H Q E →
      ∃ t, PSs (L2H.cxH CX0 P w K mg base N qual (defScope st) f cdv A outer s H E (a, oe)).nox (defBody st) t ∧ t { nx := fun _ H' => Q .non H', rt := Q } (start N vs) H) :
    FnE P w K mg base (k + 1) f fd ps sp := by
  obtain ⟨oc, od, kV, doc, pm, an, cdv, ct, osl, rfl, lk, hcd⟩ := F.ex
  refine ⟨len, fun A outer s H args us vs Q E a oe cls d hr hg hot hz hpin e0 hb r hsp => ?_⟩
  obtain ⟨t, h, q⟩ := hbody cdv A outer s H vs Q E a oe cls d (hr.deeper _) hg hot hz hsp
  exact body_run (c := false) (pn := [(a, oe)]) lk hcd S hr.depth e0 hb (fun s1 x => L2H.inv_startH S hpin e0 (len _ _ _ _ _ _ _ hsp) r x) h.nox q
end
section
variable {X : Cx} {k : Nat} {f : Addr} {fd : FuncData} {ps : List Str} {sp : SpE} {x : Str} {p pos : Pos} {e : Expr} {es : List Expr} {t : TA} {a : Addr} {oe : Obj} {cls : Value} {d : Option Addr}
theorem pe_callE (F : FnE X.prog X.w X.K X.mg X.base k f fd ps sp) (hr : L2H.RoomH k X.A) (hgd : Gd X.A) (hot : L2H.Hot1 X.A (a, oe)) (hz : Zc cls d oe) (hp : (a, oe) ∈ X.pn)
    (hg : Gl X x) (hm : X.mg x = some (.ref f)) (hk : PySem.W.keepIn X.K (.ref f) = true) (hb : Binds X.K fd ps [])
    (ha : PA X (e :: es) t) (hdb : (x == ("__debug__" : Str)) = false := by decide) (he : starEach (e :: es) X.env = (false, eval e X.env) :: starEach es X.env := by rfl)
    (hpl : (backTo pos (starEach es X.env)).any (·.1) = false := by rfl) : PE X (.Call (.Name x p) (e :: es) [] pos) (tCall (sp a cls d) [] E0 t) := by
  refine ⟨fun pins s σ H Q I h => wpAny_Call_Name_kw (ld_glob I hg hm ?_ hdb)⟩
  refine PySem.W.callWith_K (h₀ := X.base) I.ok.mod.kin hk (thn (ha.run pos pins s σ H _ I h) (fun us s1 hq => ?_)) he hpl
  obtain ⟨vs, H1, I1, r, q⟩ := hq
  rw [List.append_nil] at q
  refine ⟨I1.kIn, ?_⟩
  have hl : (us ++ []).length = ps.length := by rw [List.append_nil, ← r.length]; exact F.len _ _ _ _ _ _ _ q
  have b := hb s1 us I1.kIn hl
  rw [List.append_nil] at b
  have P1 := I1.pin (a, oe) (List.mem_append_left _ hp)
  have hpin : L2H.PinOk X.stack H1 s1 (a, oe) := ⟨P1.1, P1.2.1, fun hmm => (List.mem_cons.mp (I1.stkSub a hmm)).elim P1.2.2.1 P1.2.2.2.1, P1.2.2.2.2⟩
  refine wpAny_call (codeAny_mono (F.run X.A X.stack s1 H1 ⟨us, []⟩ us vs Q E0 a oe cls d hr hgd hot hz hpin I1.env0 b r q) (fun res s' hq => ?_))
  match res, hq with
  | .ok (.ret u), hq => exact I1.after hq
end

/-! ### the pinned exception: isinstance, its fields -/
section
variable {X : Cx} {a D : Addr} {oe : Obj}
theorem inst_pin {pins : List (Addr × Obj)} {σ : L2.St} {H : Hp} {s : Shared} {d : Option Addr} (I : Inv X pins σ H s) (hp : (a, oe) ∈ X.pn) (hz : Zc (.ref D) d oe) : s.heap.get? a = some oe := (I.pin (a, oe) (List.mem_append_left _ hp)).1
end
end Wk
/-! in, [ ], == and != by a class's own methods. -/
namespace Wk
open PySem PySem.Spec PyProof.Rows L2
section
variable {X : Cx} {CX : CXT} {k : Nat} {C f : Addr} {fd : FuncData} {ps : List Str} {sp : Sp} {E : XK}
theorem dun_call {A : Around} {pins : List (Addr × Obj)} {σ : L2.St} {H : Hp} {s : Shared} {vs : List V} {us : List Value} {Q : VK} (F : FnOk X.prog X.w X.K X.mg X.base CX k f fd ps sp)
    (hA : A.frames = X.A.frames) (hr : Room k A) (hb : Binds X.K fd ps []) (hx : Passes CX X E) (I : Inv X pins σ H s) (rv : Vals vs us) (h : sp vs H Q E) :
    wpAny (model X.prog X.w) A (call (.ref f) us) (EP X pins σ Q) X.xe s := by
  have e0 : Env0 X.prog X.w X.K X.mg X.base A X.stack s H := by
    have e := I.env0
    exact ⟨by rw [hA]; exact e.frames, e.mod, e.bs, e.bsz, e.funs, e.frf, e.hok, e.bare⟩
  have hl := F.len _ _ _ _ h
  refine wpAny_call (codeAny_mono (F.run A X.stack s H ⟨us, []⟩ us vs _ E hr e0 (by
    have := hb s us I.kIn (by rw [List.append_nil, ← rv.length]; exact hl)
    simpa using this) rv h) fun r s' hq => ?_)
  cases r with
  | error e => exact hx pins σ H s e s' I hq
  | ok fl =>
    cases fl with
    | ret w =>
      obtain ⟨z, H', I', rz, q⟩ := I.after hq
      exact ⟨z, H', I', rz, q⟩
    | next => exact False.elim hq
    | brk => exact False.elim hq
    | cont => exact False.elim hq
/-- x in o -/
def rInO (C : Addr) (sp : Sp) (E : XK) : R2 := fun x y H Q => ∃ a dx fs, y = .ref a ∧ H a = some (.ins C dx fs) ∧ sp [.ref a, x] H (fun v H' => ∃ b, v = .bl b ∧ Q (.bl b) H') E
theorem op_inO (F : FnOk X.prog X.w X.K X.mg X.base CX k f fd ps sp) (hr : Room k X.A) (hb : Binds X.K fd ps []) (hx : Passes CX X E)
    (hs : PySem.W.findIn X.K (.ref C) "__contains__" = some (some (.ref f))) (hf : PySem.W.isFn X.K (.ref f) = true) : OpR X (compareOp .In) (rInO C sp E) := by
  intro pins s σ H x y v u Q I rx ry h
  obtain ⟨a, dx, fs, rfl, ha, h⟩ := h
  cases (show u = Value.ref a from ry)
  obtain ⟨mA, J, _⟩ := ins_get I.hok ha
  obtain ⟨od, J, _⟩ := J.look
  obtain ⟨m, hF⟩ := I.fr
  refine PySem.W.in_K hF I.ok.mod.kin J hs hf (wpAny_mono (dun_call F rfl hr hb hx I (.cons (show RelV (.ref a) (.ref a) from rfl) (.cons rx .nil)) h) (fun r s' z => ?_) fun _ _ e => e)
  obtain ⟨z, H', I', rz, b, ez, q⟩ := z
  subst ez
  cases rz
  exact wpAny_truthy_bool ⟨.bl b, H', I', rfl, q⟩
/-- o[i] -/
def rIxO (C : Addr) (sp : Sp) (E : XK) : R2 := fun x y H Q => ∃ a dx fs, x = .ref a ∧ H a = some (.ins C dx fs) ∧ sp [.ref a, y] H Q E
theorem pe_ixO {a b : Expr} {ta tb : TE} {pos : Pos} (F : FnOk X.prog X.w X.K X.mg X.base CX k f fd ps sp) (hr : Room (k + 1) X.A) (hb : Binds X.K fd ps []) (hx : Passes CX X E)
    (hs : PySem.W.findIn X.K (.ref C) "__getitem__" = some (some (.ref f))) (hfn : PySem.W.fnIn X.K f = true) (hf : PySem.W.isFn X.K (.ref f) = true) (ha : PE X a ta) (hb' : PE X b tb)
    (hsl : ∀ o i, subscripted b true o i = runValue (.builtin "lifetime.subscript" ⟨[o, i], []⟩)) : PE X (.Subscript a b pos) (tOp (rIxO C sp E) ta tb) := by
  refine ⟨fun pins s σ H Q I h => ?_⟩
  refine Subscript_ (binT ha hb' I h fun v u s2 x y H2 I2 rx ry q => ?_)
  obtain ⟨p, dx, fs, rfl, hp, q⟩ := q
  cases (show v = Value.ref p from rx)
  obtain ⟨mA, J, _⟩ := ins_get I2.hok hp
  obtain ⟨od, J, _⟩ := J.look
  obtain ⟨m, hF⟩ := I2.fr
  exact PySem.W.sub_K hF I2.ok.mod.kin J hs hfn hf (dun_call F rfl hr.in1 hb hx I2 (.cons (show RelV (.ref p) (.ref p) from rfl) (.cons ry .nil)) q) (hsl _ _)
/-- o == y -/
def rEqO (K : PySem.W.Frag) (C : Addr) (sp : Sp) (E : XK) : R2 := fun x y H Q => ∃ a dx fs t, x = .ref a ∧ H a = some (.ins C dx fs) ∧ TyX K H y t ∧ PySem.W.notFirst K C t = true ∧ sp [.ref a, y] H (fun v H' => ∃ b, v = .bl b ∧ Q (.bl b) H') E
theorem op_eqO (F : FnOk X.prog X.w X.K X.mg X.base CX k f fd ps sp) (hr : Room k X.A) (hb : Binds X.K fd ps []) (hx : Passes CX X E)
    (hs : PySem.W.findIn X.K (.ref C) "__eq__" = some (some (.ref f))) (hf : PySem.W.isFn X.K (.ref f) = true) : OpR X (compareOp .Eq) (rEqO X.K C sp E) := by
  intro pins s σ H x y v u Q I rx ry h
  obtain ⟨a, dx, fs, t, rfl, ha, ty, nf, h⟩ := h
  cases (show v = Value.ref a from rx)
  obtain ⟨mA, J, _⟩ := ins_get I.hok ha
  obtain ⟨od, J, _⟩ := J.look
  obtain ⟨m, hF⟩ := I.fr
  obtain ⟨P, Z, p, _⟩ := kit_of I ry ty
  refine PySem.W.cmp_K (op := .Eq) hr.units0 hF I.ok.mod.kin J (Z.ty _ _ I.kIn p) nf hs hf (wpAny_mono (dun_call F rfl hr hb hx I (.cons (show RelV (.ref a) (.ref a) from rfl) (.cons ry .nil)) h) (fun r s' z => ?_) fun _ _ e => e)
  obtain ⟨z, H', I', rz, b, ez, q⟩ := z
  subst ez
  cases rz
  exact ⟨.bl b, H', I', rfl, q⟩
/-- o != y, by == -/
theorem ne_own {prog : Program} {w : World} {A : Around} {E : Value → Shared → Prop} {s : Shared} {K : PySem.W.Frag} {x C f : Addr} {ox : Obj} {od : Option Obj} {b tb : Value} {Q : Value → Shared → Prop}
    (hu : A.units + 1 < cLine) (X : K.In s.heap) (I : PySem.W.InstAt s.heap x ox C od) (hb : PySem.W.Looks (model prog w) s.heap (typeOf b) tb) (hn : PySem.W.notFirst K C tb = true)
    (hne : PySem.W.findIn K (.ref C) "__ne__" = some (some (.builtin "object.__ne__"))) (hin : PySem.W.mroIn K C (.type "object") = some true) (hs : PySem.W.findIn K (.ref C) "__eq__" = some (some (.ref f))) (hf : PySem.W.isFn K (.ref f) = true)
    (h : wpAny (model prog w) A.in1 (call (.ref f) [.ref x, b]) (fun v s' => ∃ r, v = .bool r ∧ Q (.bool (!r)) s') E s) : wpAny (model prog w) A (richCompare .NotEq (.ref x) b) Q E s := by
  have S := F.cmp_object.ne
  have one : wpAny (model prog w) A (tryCompare (.ref x) "__ne__" b) (fun r s' => ∃ v, r = some v ∧ Q v s') E s := by
    unfold tryCompare
    have inner : wpAny (model prog w) A (call (.builtin "object.__ne__") [.ref x, b]) (fun v s' => ∃ r, v = .bool r ∧ Q (.bool r) s') E s := by
      refine wpAny_call (codeAny_call_builtin S.plain F.cmpEntry_ne (PySem.W.check_slot F.cmpKind_ne F.cmpSplit_ne ?_ (F.cmpArgs_ne _ _) ?_))
      · exact I.type.andThen (PySem.W.looks_mroIn X hin)
      · unfold Builtin.«object.__ne__»
        have hu' : A.in1.units < cLine := Nat.lt_of_le_of_lt (by first | exact Nat.le_refl _ | exact Nat.le_succ _) hu
        repeat (first
          | with_reducible refine wpAny_cRoomFor hu' ?_
          | (refine wpAny_bind (m := callSpecialIfBound? (.ref x) (Str.ofString "__eq__") [b])
              (PySem.W.ifBound_K X I hs hf (wpAny_mono h (fun r s' hr => by
                obtain ⟨b', rfl, hq⟩ := hr
                repeat (first | exact ⟨!b', rfl, hq⟩ | exact wpAny_pure ⟨!b', rfl, hq⟩ | (refine wpAny_bind (m := truthy (.bool _)) (wpAny_truthy_bool ?_)) | wp_step)) fun _ _ e => e)))
          | wp_step)
    refine wpAny_bind ?_
    simp only [callSpecialIfBound?, bindSpecialIfBound?]
    refine wpAny_holding (wpAny_bind (wpAny_bind (wpAny_bind (I.type.here ((PySem.W.looks_findIn X hne).here ?_)))))
    simp only [S.bind]
    refine wpAny_bind (wpAny_askSetting (wpAny_ite ?_))
    have fin : wpAny (model prog w) A (call (.builtin "object.__ne__") ([.ref x] ++ [b]) >>= fun v => pure (some v)) (fun a s₁ => wpAny (model prog w) A (match a with | some .notImplemented | none => pure none | some v => pure (some v)) (fun r s' => ∃ v, r = some v ∧ Q v s') E s₁) E s :=
      wpAny_bind (wpAny_mono inner (fun v s' h' => by obtain ⟨r, rfl, q⟩ := h'; exact wpAny_pure (wpAny_pure ⟨_, rfl, q⟩)) fun _ _ h' => h')
    split
    · exact wpAny_bind (wpAny_pure (wpAny_pure fin))
    · exact wpAny_tryCatch (wpAny_bind (wpAny_pure (wpAny_pure fin)))
  unfold richCompare
  simp only [oneThing_ref]
  refine wpAny_holding (wpAny_bind (wpAny_cRoomFor (Nat.lt_of_succ_lt hu) ?_))
  refine wpAny_bind (I.type.here (wpAny_bind (hb.here ?_)))
  split
  · rename_i q
    have e : PySem.W.subIn K tb (.ref C) = some false := by
      rcases Bool.or_eq_true_iff.mp hn with e | e
      · rw [beq_iff_eq.mp e] at q; simp at q
      · exact beq_iff_eq.mp e
    refine wpAny_bind ((PySem.W.looks_subIn X e).here ?_)
    simp only [Bool.false_eq_true, if_false]
    refine wpAny_bind (wpAny_mono one (fun r s' z => ?_) fun _ _ e => e)
    obtain ⟨v, rfl, hq⟩ := z
    exact wpAny_pure hq
  · refine wpAny_bind (wpAny_pure ?_)
    simp only [Bool.false_eq_true, if_false]
    refine wpAny_bind (wpAny_mono one (fun r s' z => ?_) fun _ _ e => e)
    obtain ⟨v, rfl, hq⟩ := z
    exact wpAny_pure hq
theorem op_neO (F : FnOk X.prog X.w X.K X.mg X.base CX k f fd ps sp) (hr : Room (k + 1) X.A) (hb : Binds X.K fd ps []) (hx : Passes CX X E)
    (hne : PySem.W.findIn X.K (.ref C) "__ne__" = some (some (.builtin "object.__ne__"))) (hin : PySem.W.mroIn X.K C (.type "object") = some true)
    (hs : PySem.W.findIn X.K (.ref C) "__eq__" = some (some (.ref f))) (hf : PySem.W.isFn X.K (.ref f) = true) : OpR X (compareOp .NotEq) (fun x y H Q => rEqO X.K C sp E x y H fun v H' => ∃ b, v = .bl b ∧ Q (.bl (!b)) H') := by
  intro pins s σ H x y v u Q I rx ry h
  obtain ⟨a, dx, fs, t, rfl, ha, ty, nf, h⟩ := h
  cases (show v = Value.ref a from rx)
  obtain ⟨mA, J, _⟩ := ins_get I.hok ha
  obtain ⟨od, J, _⟩ := J.look
  obtain ⟨m, hF⟩ := I.fr
  obtain ⟨P, Z, p, _⟩ := kit_of I ry ty
  refine ne_own (by have := hr.in1.units0; exact this) I.kIn J (Z.ty _ _ I.kIn p) nf hne hin hs hf (wpAny_mono (dun_call F rfl hr.in1 hb hx I (.cons (show RelV (.ref a) (.ref a) from rfl) (.cons ry .nil)) h) (fun r s' z => ?_) fun _ _ e => e)
  obtain ⟨z, H', I', rz, b, ez, b2, eb, q⟩ := z
  subst ez
  cases rz
  cases eb
  exact ⟨b, rfl, .bl (!b), H', I', rfl, q⟩
end
end Wk
/-! A dict comprehension with two clauses, its keys tuples. -/
namespace Wk
open PySem PySem.Spec PyProof.Rows L2
abbrev dcE (kx vx t0 i0 t1 i1 : Expr) (scope : Scope) (pos : Pos) : Expr := .DictComp kx vx [⟨t0, i0, [], 0⟩, ⟨t1, i1, [], 0⟩] scope pos
section
variable {prog : Program} {w : World} {A : Around} {R : Result → Shared → Prop} {s : Shared} {kx vx t0 i0 t1 i1 : Expr} {scope : Scope} {pos : Pos} {it : Value} {D : Addr} {env : Env}
theorem dcOut : compTurn (dcE kx vx t0 i0 t1 i1 scope pos) 0 it (.ref D) env = (do
      standAt i0.pos
      match ← pyNext it with
      | none => pure (.done .next)
      | some v =>
        letOwnedTupleGo t0 it v
        assign t0 env v
        let x ← eval i1 env
        standAt i1.pos
        let x ← foldedSetIterable i1 env x
        let _ ← runOwn (.compStart (dcE kx vx t0 i0 t1 i1 scope pos) 1 (← holding [x] (pyIter x)) (.ref D) env) env
        again (.compLoop (dcE kx vx t0 i0 t1 i1 scope pos) 0 it (.ref D) env)) := by rfl
theorem dcIn : compTurn (dcE kx vx t0 i0 t1 i1 scope pos) 1 it (.ref D) env = (do
      standAt i1.pos
      match ← pyNext it with
      | none => pure (.done .next)
      | some v =>
        letOwnedTupleGo t1 it v
        assign t1 env v
        (do
          let kv ← eval kx env
          let vv ← holding [kv] (eval vx env)
          standAt { kx.pos with endLine := vx.pos.endLine, endCol := vx.pos.endCol }
          holding [kv, vv] (dictSet D kv vv))
        again (.compLoop (dcE kx vx t0 i0 t1 i1 scope pos) 1 it (.ref D) env)) := by rfl
/-- what is wanted where an error leaves the block: here nothing -/
abbrev NoX (prog : Program) (w : World) (A : Around) (env : Env) (R : Result → Shared → Prop) : Value → Shared → Prop := notedBy (model prog w) A env fun e s' => R (.error e) s'
/-- the outer clause's loop -/
theorem dc_outer (hs : ∀ x, foldedSetIterable i1 env x = pure x) (I : Nat → Shared → Prop)
    (stop_go : ∀ n s, I n s → wpAny (model prog w) A (pyNext it) (fun r s₁ => match r with
      | none => R (.ok .next) s₁
      | some v => wpAny (model prog w) A (letOwnedTupleGo t0 it v) (fun _ s₂ => wpAny (model prog w) A (assign t0 env v) (fun _ s₃ =>
          wpAny (model prog w) A (eval i1 env) (fun x s₄ => wpAny (model prog w) A (pyIter x) (fun it1 s₅ =>
            codeAny (model prog w) A (.compStart (dcE kx vx t0 i0 t1 i1 scope pos) 1 it1 (.ref D) env) (fun r s' => match r with
              | .ok _ => ∃ m, m < n ∧ I m s'
              | .error _ => False) s₅) (NoX prog w A env R) s₄) (NoX prog w A env R) s₃) (NoX prog w A env R) s₂) (NoX prog w A env R) s₁) (NoX prog w A env R) s)
    (n : Nat) (h : I n s) : codeAny (model prog w) A (.compLoop (dcE kx vx t0 i0 t1 i1 scope pos) 0 it (.ref D) env) R s := by
  refine codeAny_loop rfl I (fun n s hI => ?_) n h
  show wpAny _ A ((compTurn (dcE kx vx t0 i0 t1 i1 scope pos) 0 it (.ref D) env).onRaise (fun x => do noteFrame x env; theTreesLotGoes x)) _ _ s
  refine wpAny_noted ?_
  rw [dcOut]
  refine wpAny_bind (wpAny_standAt (wpAny_bind (wpAny_mono (stop_go n s hI) (fun r s₁ h₁ => ?_) fun _ _ z => z)))
  cases r with
  | none => exact wpAny_pure h₁
  | some v =>
    refine wpAny_bind (wpAny_mono h₁ (fun _ s₂ h₂ => wpAny_bind (wpAny_mono h₂ (fun _ s₃ h₃ => wpAny_bind (wpAny_mono h₃ (fun x s₄ h₄ => ?_) fun _ _ z => z)) fun _ _ z => z)) fun _ _ z => z)
    refine wpAny_bind (wpAny_standAt (wpAny_bind (wpAny_of_eq (hs x) (wpAny_bind (wpAny_holding (wpAny_mono h₄ (fun it1 s₅ h₅ => ?_) fun _ _ z => z))))))
    refine wpAny_bind (wpAny_runOwn ?_)
    rw [Around.mark_none]
    refine codeAny_mono h₅ fun r s' hr => ?_
    cases r with
    | ok f => first
      | exact wpAny_pure ⟨rfl, hr⟩
      | exact wpAny_bind (wpAny_pure (wpAny_pure ⟨rfl, hr⟩))
    | error e => exact hr.elim
/-- the inner clause's loop -/
theorem dc_inner (I : Nat → Shared → Prop)
    (stop_go : ∀ n s, I n s → wpAny (model prog w) A (pyNext it) (fun r s₁ => match r with
      | none => R (.ok .next) s₁
      | some v => wpAny (model prog w) A (letOwnedTupleGo t1 it v) (fun _ s₂ => wpAny (model prog w) A (assign t1 env v) (fun _ s₃ =>
          wpAny (model prog w) A (eval kx env) (fun kv s₄ => wpAny (model prog w) A (eval vx env) (fun vv s₅ =>
            wpAny (model prog w) A (dictSet D kv vv) (fun _ s₆ => ∃ m, m < n ∧ I m s₆) (NoX prog w A env R) s₅) (NoX prog w A env R) s₄) (NoX prog w A env R) s₃) (NoX prog w A env R) s₂) (NoX prog w A env R) s₁) (NoX prog w A env R) s)
    (n : Nat) (h : I n s) : codeAny (model prog w) A (.compLoop (dcE kx vx t0 i0 t1 i1 scope pos) 1 it (.ref D) env) R s := by
  refine codeAny_loop rfl I (fun n s hI => ?_) n h
  show wpAny _ A ((compTurn (dcE kx vx t0 i0 t1 i1 scope pos) 1 it (.ref D) env).onRaise (fun x => do noteFrame x env; theTreesLotGoes x)) _ _ s
  refine wpAny_noted ?_
  rw [dcIn]
  refine wpAny_bind (wpAny_standAt (wpAny_bind (wpAny_mono (stop_go n s hI) (fun r s₁ h₁ => ?_) fun _ _ z => z)))
  cases r with
  | none => exact wpAny_pure h₁
  | some v =>
    refine wpAny_bind (wpAny_mono h₁ (fun _ s₂ h₂ => wpAny_bind (wpAny_mono h₂ (fun _ s₃ h₃ => ?_) fun _ _ z => z)) fun _ _ z => z)
    exact wpAny_bind (wpAny_bind (wpAny_mono h₃ (fun kv s₄ h₄ => wpAny_bind (wpAny_holding (wpAny_mono h₄ (fun vv s₅ h₅ => wpAny_bind (wpAny_standAt (wpAny_holding (wpAny_mono h₅ (fun _ s₆ h₆ => wpAny_pure ⟨rfl, h₆⟩) fun _ _ z => z)))) fun _ _ z => z))) fun _ _ z => z))
/-- the inner clause's start -/
theorem dc_start1 (h0 : codeAny (model prog w) A (.compLoop (dcE kx vx t0 i0 t1 i1 scope pos) 1 it (.ref D) env) R s)
    (h : wpAny (model prog w) A (pyIter it) (fun it' s' => codeAny (model prog w) A (.compLoop (dcE kx vx t0 i0 t1 i1 scope pos) 1 it' (.ref D) env) R s') (NoX prog w A env R) s) :
    codeAny (model prog w) A (.compStart (dcE kx vx t0 i0 t1 i1 scope pos) 1 it (.ref D) env) R s := by
  refine codeAny_of_tree ?_
  show wpAny _ _ ((compStart (dcE kx vx t0 i0 t1 i1 scope pos) 1 it (.ref D) env).onRaise (fun x => do noteFrame x env; standAt theWindowsPlace)) _ _ s
  refine wpAny_notedAt ?_
  unfold compStart
  show wpAny _ _ (ask >>= _) _ _ s
  refine wpAny_bind (wpAny_askSetting (wpAny_ite ?_))
  split
  · first
      | exact wpAny_pure ⟨rfl, h0⟩
      | exact wpAny_bind (wpAny_pure (wpAny_pure ⟨rfl, h0⟩))
  · refine wpAny_bind (wpAny_rule ?_)
    show wpAny _ _ (standAt i1.pos >>= _) _ _ s
    exact wpAny_bind (wpAny_standAt (wpAny_bind (wpAny_mono h (fun it' s' h' => wpAny_pure ⟨rfl, h'⟩) fun _ _ z => z)))
end
/-- d[(..)] = v of a dict with tuple keys, as a comprehension does it -/
theorem dt_put {X : Cx} {pins : List (Addr × Obj)} {σ : L2.St} {H : Hp} {s : Shared} {E : Value → Shared → Prop} {D b : Addr} {kvs : List (List Key × V)} {k : List Key} {v : V} {r : Value} {Q : Unit → Shared → Prop} (hu : X.A.units < cLine) (I : Inv X pins σ H s)
    (hD : H D = some (.dT kvs)) (hb : H b = some (.tup (k.map kV))) (hz : kvs.length < sizeLine) (rv : RelV v r) (h : ∀ s', Inv X pins σ (upd H D (.dT (putK kvs k v))) s' → Q () s') : wpAny (model X.prog X.w) X.A (dictSet D (.ref b) r) Q E s := by
  obtain ⟨z, hd, xs, rel, dd⟩ := dt_of I.hok hD
  have hl : (putK kvs k v).length ≤ sizeLine := Nat.le_trans (length_putK kvs k v) hz
  refine wpAny_dictSet_heap (hsz := by rw [← Paired.length rel]; exact z) (show (tupleKind (mixKind X.prog X.w)).room X.A from hu) (key_of I.hok hb) dd fun h' dd' hs => h _ ?_
  obtain ⟨q, es, ep, hq, h2, h3, h4, _, h5⟩ := dd'
  exact d_write I (by rw [hD]; exact True.intro) hs ⟨q, hq⟩ ⟨hl, hd, _, (rel.put k hb rv).keeps (fun c ys ec => (upd_ne (ne_of ec hD (fun z => nomatch z))).trans ec), q, es, ep, hq, h2, h3, h4, h5⟩
end Wk
/-! The rule of a dict comprehension with two clauses. -/
namespace Wk
open PySem PySem.Spec PyProof.Rows L2
section
variable {X : Cx}
/-- the inner clause's reading, from slots σ2: Nx is what the outer loop wants behind it -/
def tDcIn (wi1 : TI) (g1 : TG) (tk tv : TE) (vs1 : List Nat) (D : Addr) (Nx : Hp → Prop) (σ2 : L2.St) (H2 : Hp) : Prop := wi1 σ2 H2 fun J1 H4 => ∃ W1 : Nat → Nat → Hp → Prop, (∃ m, W1 0 m H4) ∧ ∀ j k H, W1 j k H →
  (J1.stop j H ∧ Nx H) ∨ (J1.go j H ∧ ∃ Nx1 : Hp → Prop, (∀ H', Nx1 H' → ∃ k', k' < k ∧ W1 (j + 1) k' H') ∧ ∀ x H', J1.yld j H x H' → g1 x (wipe σ2 vs1) H' fun σ3 H5 => wipe σ3 vs1 = wipe σ2 vs1 ∧
    tk σ3 H5 fun y H6 => tv σ3 H6 fun z H7 => ∃ (kvs : List (List Key × V)) (q : List Key) (b : Addr), y = .ref b ∧ H7 b = some (.tup (q.map kV)) ∧ H7 D = some (.dT kvs) ∧ kvs.length < sizeLine ∧ Nx1 (upd H7 D (.dT (putK kvs q z))))
def tDc2 (wi : TI) (g : TG) (wi1 : TI) (g1 : TG) (tk tv : TE) (vs vs1 : List Nat) : TE := fun σ H Q => wi σ H fun J H1 => ∀ D, H1 D = none → ∃ W : Nat → Nat → Hp → Prop, (∃ m, W 0 m (upd H1 D (.dT []))) ∧ ∀ i m H, W i m H →
  (J.stop i H ∧ Q (.ref D) H) ∨ (J.go i H ∧ ∃ Nx : Hp → Prop, (∀ H', Nx H' → ∃ m', m' < m ∧ W (i + 1) m' H') ∧ ∀ x H', J.yld i H x H' → g x (wipe σ vs) H' fun σ2 H2 => wipe σ2 vs = wipe σ vs ∧ tDcIn wi1 g1 tk tv vs1 D Nx σ2 H2)
theorem pe_dc2 {kx vx tg iter tg1 iter1 : Expr} {scope : Scope} {own : List (Str × Nat)} {vs1 : List Nat} {pos : Pos} {wi wi1 : TI} {g g1 : TG} {tk tv : TE} (hc : X.calm = true) (hu : X.A.units < cLine) (hN : X.N.Nodup) (hi : PI X tg iter wi) (ok : BlkOk X.N X.env.scope scope own) (hv : ∀ i ∈ vs1, i ∈ own.map (·.2))
    (hg : ∀ (s : Shared) (H : Hp) (C : Addr) (cl : List (Str × Addr)) (fp : List Addr), PG (X.blk s H scope (compEnvC scope cl C X.env) fp) tg g)
    (hi1 : ∀ (s : Shared) (H : Hp) (C : Addr) (cl : List (Str × Addr)) (fp : List Addr), PI (X.blk s H scope (compEnvC scope cl C X.env) fp) tg1 iter1 wi1)
    (hg1 : ∀ (s : Shared) (H : Hp) (C : Addr) (cl : List (Str × Addr)) (fp : List Addr), PG (X.blk s H scope (compEnvC scope cl C X.env) fp) tg1 g1)
    (hk : ∀ (s : Shared) (H : Hp) (C : Addr) (cl : List (Str × Addr)) (fp : List Addr), PE (X.blk s H scope (compEnvC scope cl C X.env) fp) kx tk)
    (he : ∀ (s : Shared) (H : Hp) (C : Addr) (cl : List (Str × Addr)) (fp : List Addr), PE (X.blk s H scope (compEnvC scope cl C X.env) fp) vx tv)
    (hs : ∀ x, foldedSetIterable iter X.env x = pure x := by intro _; rfl) (hs1 : ∀ env x, foldedSetIterable iter1 env x = pure x := by intro _ _; rfl) :
    PE X (dcE kx vx tg iter tg1 iter1 scope pos) (tDc2 wi g wi1 g1 tk tv (own.map (·.2)) vs1) := by
  refine ⟨fun pins s σ H Q I h => ?_⟩
  unfold dcE
  rw [arm_eval_DictComp]
  have hfree : ∀ y ∈ scope.names, y.2 = .free → ∃ c, X.env.cells.lookup y.1 = some c := fun y hy e => by
    rcases ok.free y hy e with z | z <;> exact I.ok.has _ (by first | exact .inl z | exact .inr z)
  refine wpAny_comprehension_free (use := none) rfl hs (closure_ok hfree) ok.kind (fun y hy e => by rw [ok.uniq y hy, e])
    (thn (hi.run pins s σ H _ I h) fun xv s1 hx => thn hx fun itv s2 h2 => ?_)
  obtain ⟨it, fp, tn, J, H2, e, I2, T, st2, f2, q⟩ := h2
  subst e
  refine wpAny_newObj_type (newEnv_comp ?_)
  -- the new dict at D
  generalize hD : s2.heap.objs.size = D
  have hDn : H2 D = none := I2.hok.fresh (Nat.le_of_eq hD)
  obtain ⟨W, ⟨m0, w0⟩, turn⟩ := q D hDn
  generalize hs3 : ({ s2 with heap := s2.heap.push { cls := .type "dict", data := .dict #[] } } : Shared) = s3
  have h3 : s3.heap = s2.heap.push { cls := .type "dict", data := .dict #[] } := by rw [← hs3]
  have I3 : Inv X pins σ (upd H2 D (.dT [])) s3 := by
    rw [← hs3]
    refine I2.laid (t' := s2.toks) (fun b o e => Heap.get?_push_of_some _ e) (Nat.le_of_eq hD) ?_
    rw [← hD]
    exact dt_empty s2.heap I2.big
  have f3 : ∀ b ∈ fp, FpOk X pins (upd H2 D (.dT [])) b ∧ b < s3.heap.objs.size := fun b hb => by
    obtain ⟨o, e, _⟩ := T.obj _ _ st2 b hb
    have hlt := Heap.lt_size e
    exact ⟨⟨(upd_ne (by rw [← hD]; exact Nat.ne_of_lt hlt)).trans (f2 b hb).1, (f2 b hb).2⟩, by rw [h3, Heap.size_push]; exact Nat.lt_succ_of_lt hlt⟩
  have st3 : tn 0 s3.heap := T.keep _ _ _ st2 fun b _ o e => by rw [h3]; exact Heap.get?_push_of_some _ e
  have I4 := block_start I3 ok hN f3
  have pg := hg s3 (upd H2 D (.dT [])) s3.heap.objs.size (cellsFrom (s3.heap.objs.size + 1) scope.names (cloFrom X.env.cells scope.names [])) fp
  have pi1 := hi1 s3 (upd H2 D (.dT [])) s3.heap.objs.size (cellsFrom (s3.heap.objs.size + 1) scope.names (cloFrom X.env.cells scope.names [])) fp
  have pg1 := hg1 s3 (upd H2 D (.dT [])) s3.heap.objs.size (cellsFrom (s3.heap.objs.size + 1) scope.names (cloFrom X.env.cells scope.names [])) fp
  have pk := hk s3 (upd H2 D (.dT [])) s3.heap.objs.size (cellsFrom (s3.heap.objs.size + 1) scope.names (cloFrom X.env.cells scope.names [])) fp
  have pe := he s3 (upd H2 D (.dT [])) s3.heap.objs.size (cellsFrom (s3.heap.objs.size + 1) scope.names (cloFrom X.env.cells scope.names [])) fp
  show codeAny _ _ (.compStart (dcE kx vx tg iter tg1 iter1 scope pos) 0 (.ref it) (.ref D) (compEnvC scope (cellsFrom (s3.heap.objs.size + 1) scope.names (cloFrom X.env.cells scope.names [])) s3.heap.objs.size X.env)) (compPost (model X.prog X.w) X.A X.xe none (EP X pins σ Q) (.ref D) s3.heap.objs.size) { s3 with heap := pushCells (s3.heap.push { cls := .type "dict", data := .dict #[] }) scope.names }
  have nfp : ∀ b ∈ fp, (upd H2 D (.dT [])) b = none := fun b hb => (f3 b hb).1.1
  generalize hce : compEnvC scope (cellsFrom (s3.heap.objs.size + 1) scope.names (cloFrom X.env.cells scope.names [])) s3.heap.objs.size X.env = ce at I4 pg pi1 pg1 pk pe ⊢
  have cL : ce.locals = s3.heap.objs.size := by rw [← hce]; rfl
  generalize hH3 : upd H2 D (.dT []) = H3 at I3 I4 pg pi1 pg1 pk pe w0 nfp f3
  generalize hs4 : ({ s3 with heap := pushCells (s3.heap.push { cls := .type "dict", data := .dict #[] }) scope.names } : Shared) = s4 at I4 ⊢
  have st4 : tn 0 s4.heap := T.keep _ _ _ st3 fun b _ o e => by rw [← hs4]; exact pushCells_keeps _ _ _ _ (Heap.get?_push_of_some _ e)
  have loop : codeAny (model X.prog X.w) X.A (.compLoop (dcE kx vx tg iter tg1 iter1 scope pos) 0 (.ref it) (.ref D) ce) (compPost (model X.prog X.w) X.A X.xe none (EP X pins σ Q) (.ref D) s3.heap.objs.size) s4 := by
    -- the outer iterator's objects stand still
    have still : ∀ {σ' : L2.St} {H' : Hp} {s' : Shared}, Inv (X.blk s3 H3 scope ce fp) [] σ' H' s' → (∀ b ∈ fp, H' b = none) → ∀ b ∈ fp, FpOk (X.blk s3 H3 scope ce fp) [] H' b := fun {σ' H' s'} I' hn b hb =>
      ⟨hn b hb, (I'.ok.exf b hb).1, I'.ok.exfs b hb, .inl hb, fun x c e => (I'.ok.exf b hb).2 x c e, fun p hp => absurd (show p ∈ ([] : List (Addr × Obj)) ++ [] from hp) (by simp)⟩
    refine dc_outer (hs1 ce) (fun n s' => ∃ i H', Inv (X.blk s3 H3 scope ce fp) [] (wipe σ (own.map (·.2))) H' s' ∧ tn i s'.heap ∧ (∀ b ∈ fp, H' b = none) ∧ W i n H') ?_ m0 ⟨0, H3, I4, st4, nfp, w0⟩
    rintro n s5 ⟨i, H5, I5, st5, n5, w5⟩
    rcases turn i n H5 w5 with ⟨stop, qq⟩ | ⟨go, Nx, hNx, step⟩
    · refine thnF (T.done (X.blk s3 H3 scope ce fp) rfl rfl rfl hc i [] s5 _ H5 (fun _ _ => False) I5 (still I5 n5) st5 stop) fun r s6 ⟨hr, I6⟩ => ?_
      subst hr
      have I7 : Inv X pins σ H5 s6 := I3.call' (ch := fp) I6.os I6.base I6.hok I6.bare fun b hb => ⟨(f3 b hb).1.2.2.2.1, (f3 b hb).1.2.1, (f3 b hb).1.2.2.2.2.1, (f3 b hb).1.2.2.2.2.2⟩
      have nC : H5 s3.heap.objs.size = none := cL ▸ (show H5 ce.locals = none from I6.free)
      obtain ⟨m, hn, _⟩ := I6.loc
      have hn : s6.heap.Ns s3.heap.objs.size m := cL ▸ (show s6.heap.Ns ce.locals m from hn)
      obtain ⟨z0, z1, z2, z3, z4, z5⟩ := I3.fpOk (Nat.le_refl _) nC
      exact ⟨m, hn, fun h'' sb => ⟨.ref D, H5, I7.turned (t' := s6.toks) (fun b o hb e => (sb.2 b hb).trans e) z0 z1 z3 z4 z5, rfl, qq⟩⟩
    · refine thnF (T.item (X.blk s3 H3 scope ce fp) rfl rfl rfl hc i [] s5 _ H5 (fun _ _ => False) I5 (still I5 n5) st5 go) fun r s6 ⟨u, hr, h6⟩ => ?_
      subst hr
      refine thnF h6 fun _ s7 ⟨x, H7, I7, r7, y7, st7, n7⟩ => ?_
      have I7' := I7.pinned (still I7 n7) (T.obj _ _ st7)
      refine thnF (pg.run _ s7 _ H7 x u _ I7' r7 (step x H7 y7)) fun _ s8 ⟨σ8, H8, I8, hw8, q8⟩ => ?_
      refine thnF (pi1.run _ s8 σ8 H8 _ I8 q8) fun xv s10 hx => thnF hx fun itv s11 h11 => ?_
      obtain ⟨it1, fp1, tn1, J1, H11, e1, I11, T1, st11, f11, W1, ⟨m1, w1⟩, turn1⟩ := h11
      subst e1
      have still1 : ∀ {H' : Hp}, (∀ b ∈ fp1, H' b = none) → ∀ b ∈ fp1, FpOk (X.blk s3 H3 scope ce fp) ([] ++ pinsAt fp s7.heap) H' b := fun hn b hb => ⟨hn b hb, (f11 b hb).2⟩
      -- what the block knew at its start it knows again
      have back : ∀ (j : Nat) v, (wipe σ (own.map (·.2)))[j]? = some (some v) → (wipe σ8 vs1)[j]? = some (some v) := fun j v e => by
        rw [← hw8] at e
        obtain ⟨e1, e2⟩ := wipe_some e
        rw [wipe_out fun z => e2 (hv j z)]
        exact e1
      have len8 : (wipe σ (own.map (·.2))).length = (wipe σ8 vs1).length := by rw [← hw8, wipe_length, wipe_length]
      have loop1 : codeAny (model X.prog X.w) X.A (.compLoop (dcE kx vx tg iter tg1 iter1 scope pos) 1 (.ref it1) (.ref D) ce)
          (fun r s' => match r with
            | .ok _ => ∃ m, m < n ∧ ∃ i H', Inv (X.blk s3 H3 scope ce fp) [] (wipe σ (own.map (·.2))) H' s' ∧ tn i s'.heap ∧ (∀ b ∈ fp, H' b = none) ∧ W i m H'
            | .error _ => False) s11 := by
        refine dc_inner (fun k s' => ∃ j H', Inv (X.blk s3 H3 scope ce fp) ([] ++ pinsAt fp s7.heap) (wipe σ8 vs1) H' s' ∧ tn1 j s'.heap ∧ (∀ b ∈ fp1, H' b = none) ∧ W1 j k H') ?_ m1
          ⟨0, H11, I11.weak (wipe_length _ _) (fun j v e => (wipe_some e).1), st11, fun b hb => (f11 b hb).1, w1⟩
        rintro k s12 ⟨j, H12, I12, st12, n12, w12⟩
        rcases turn1 j k H12 w12 with ⟨stop1, nx1⟩ | ⟨go1, Nx1, hNx1, step1⟩
        · refine thnF (T1.done (X.blk s3 H3 scope ce fp) rfl rfl rfl hc j _ s12 (wipe σ8 vs1) H12 (fun _ _ => False) I12 (still1 n12) st12 stop1) fun r s13 ⟨hr, I13⟩ => ?_
          subst hr
          obtain ⟨m', hm, w'⟩ := hNx H12 nx1
          have pin : ∀ b ∈ fp, ∀ o, s7.heap.get? b = some o → s13.heap.get? b = some o ∧ H12 b = none := fun b hb o e =>
            let z := I13.pin (b, o) (List.mem_append_right _ (List.mem_append_right _ (mem_pinsAt hb e)))
            ⟨z.1, z.2.1⟩
          refine ⟨m', hm, i + 1, H12, (I13.unpinned (pins := [])).weak len8 back, T.keep _ _ _ st7 fun b hb o e => (pin b hb o e).1, fun b hb => ?_, w'⟩
          obtain ⟨o, e, _⟩ := T.obj _ _ st7 b hb
          exact (pin b hb o e).2
        · refine thnF (T1.item (X.blk s3 H3 scope ce fp) rfl rfl rfl hc j _ s12 (wipe σ8 vs1) H12 (fun _ _ => False) I12 (still1 n12) st12 go1) fun r s13 ⟨u1, hr, h13⟩ => ?_
          subst hr
          refine thnF h13 fun _ s14 ⟨x1, H14, I14, r14, y14, st14, n14⟩ => ?_
          have I14' := I14.pinned (still1 n14) (T1.obj _ _ st14)
          refine thnF (pg1.run _ s14 (wipe σ8 vs1) H14 x1 u1 _ I14' r14 (step1 x1 H14 y14)) fun _ s15 ⟨σ15, H15, I15, hw15, q15⟩ => ?_
          refine thnF (pk.run _ s15 σ15 H15 _ I15 q15) fun z s16 ⟨yk, H16, I16, r16, q16⟩ => ?_
          refine thnF (pe.run _ s16 σ15 H16 _ I16 q16) fun z2 s17 ⟨yv, H17, I17, r17, kvs, qk, b, ek, hb, hDk, hz, nx⟩ => ?_
          subst ek
          cases (show z = Value.ref b from r16)
          refine dt_put (X := X.blk s3 H3 scope ce fp) hu I17 hDk hb hz r17 fun s18 I18 => ?_
          obtain ⟨m', hm, w'⟩ := hNx1 _ nx
          have pin : ∀ b ∈ fp1, ∀ o, s14.heap.get? b = some o → s18.heap.get? b = some o ∧ (upd H17 D (.dT (putK kvs qk yv))) b = none := fun b hb o e =>
            let z := I18.pin (b, o) (List.mem_append_right _ (List.mem_append_right _ (mem_pinsAt hb e)))
            ⟨z.1, z.2.1⟩
          refine ⟨m', hm, j + 1, _, I18.unpinned.weak (by rw [← hw15, wipe_length]) (fun j v e => by rw [← hw15] at e; exact (wipe_some e).1), T1.keep _ _ _ st14 fun b hb o e => (pin b hb o e).1, fun b hb => ?_, w'⟩
          obtain ⟨o, e, _⟩ := T1.obj _ _ st14 b hb
          exact (pin b hb o e).2
      exact dc_start1 loop1 (T1.self X.A 0 _ _ _ st11 loop1)
  exact codeAny_compStart_dict loop (T.self X.A 0 _ _ _ st4 loop)
end
end Wk
/-! sorted(d) of a dict whose keys are tuples of numbers. -/
namespace Wk
open PySem PySem.Spec PyProof.Rows L2
/-- an address and its numbers -/
def unref (h : Heap) : Value → Addr × List Int
  | .ref a => (a, TS.intsOf h (.ref a))
  | _ => (0, [])
/-- what sorted(d) asks and gives: ks the keys' numbers, ys the key objects with their numbers, ascending -/
def rSortD (d : Nat) (B : Int) : List V → Hp → VK → Prop := fun vs H Q => ∃ (a : Addr) (kvs : List (List Key × V)) (ks : List (List Int)), vs = [V.ref a] ∧ H a = some (.dT kvs) ∧ kvs.map (·.1) = ks.map (·.map Sum.inl) ∧ ks.length < 64 ∧
  (∀ n ∈ ks, n.length = d ∧ TS.Bd B n) ∧ ∀ (ys : List (Addr × List Int)) (p : Addr), (ys.map (·.2)).Perm ks → (ys.map (·.2)).Pairwise (fun n m => TS.code B n ≤ TS.code B m) → (∀ y ∈ ys, H y.1 = some (.tup (y.2.map V.int))) → H p = none →
    Q (.ref p) (upd H p (.lst (ys.map fun y => V.ref y.1)))
theorem kT_ints {H : Hp} : ∀ {kvs : List (List Key × V)} {xs : List (List Key × Addr × Value)} {ks : List (List Int)}, KT H kvs xs → kvs.map (·.1) = ks.map (·.map Sum.inl) →
    ∃ L : List (Addr × List Int), L.map (·.2) = ks ∧ (xs.map fun x => Value.ref x.2.1) = L.map (fun y => Value.ref y.1) ∧ ∀ y ∈ L, H y.1 = some (.tup (y.2.map V.int))
  | [], [], [], _, _ => ⟨[], rfl, rfl, fun y hy => (by cases hy)⟩
  | p :: ps, x :: xs, k :: ks, .cons h t, e => by
    obtain ⟨e1, e2⟩ := List.cons.inj e
    obtain ⟨L, l1, l2, l3⟩ := kT_ints t e2
    refine ⟨(x.2.1, k) :: L, by rw [List.map_cons, l1], by rw [List.map_cons, List.map_cons, l2], fun y hy => ?_⟩
    rcases List.mem_cons.mp hy with rfl | hy
    · have e1' : p.1 = k.map Sum.inl := e1
      have q := h.2.1
      rw [e1', List.map_map] at q
      exact q
    · exact l3 y hy
  | [], [], _ :: _, _, e => by cases e
  | _ :: _, _ :: _, [], _, e => by cases e
theorem refs_V (l : List (Addr × List Int)) : (l.map fun y => V.ref y.1) = (l.map (·.1)).map V.ref := by rw [List.map_map]; rfl
theorem refs_U (l : List (Addr × List Int)) : (l.map fun y => Value.ref y.1) = (l.map (·.1)).map Value.ref := by rw [List.map_map]; rfl
theorem call_sortedTD {X : Cx} {d : Nat} {B : Int} (hd1 : 1 ≤ d) (hc : X.calm = true) : CallR X (.builtin "sorted") (rSortD d B) := by
  intro pins s σ H xs us Q I r q
  obtain ⟨a, kvs, ks, rfl, ha, hks, h64, hB, q⟩ := q
  obtain ⟨u, rfl, rx⟩ := r.one
  cases rx
  obtain ⟨z, hs, xt, pr, o, es, ep, ho, hx, hdt, he, hn⟩ := (show ObjOk X.prog X.w H s.heap a (.dT kvs) from I.hok a _ ha)
  have l1 : es.size = xt.length := size_of_entries he
  have l2 : kvs.length = xt.length := Paired.length pr
  obtain ⟨L, L1, L2', L3⟩ := kT_ints pr hks
  have lL : L.length = ks.length := by rw [← L1, List.length_map]
  have lx : xt.length = L.length := by have := congrArg List.length L2'; rwa [List.length_map, List.length_map] at this
  refine Calls.call_function_entry PyProof.Rows.kind_sorted PyProof.Rows.plain_sorted PyProof.Rows.entry_sorted (PyProof.Rows.args_sorted1 _) ?_
  unfold Builtin.«sorted»
  refine wpAny_bind (m := checkCount "sorted" 1 1 _) (wpAny_pure ?_)
  refine wpAny_bind (PySem.W.kdu_collect (A := X.A.in1) (kdl_raw hs hx hdt) (I.ok.hd hc) ho (by rw [sizeLine_eq]; omega) fun h' tk acc hk it => ?_)
  have ea : acc.toList = L.map fun y => Value.ref y.1 := by
    rw [← L2']
    have hl : acc.toList.length = xt.length := by rw [Array.length_toList, it.1]; exact l1
    refine List.ext_getElem? fun j => ?_
    rw [List.getElem?_map]
    cases hj : acc.toList[j]? with
    | none =>
      have h1 := List.getElem?_eq_none_iff.mp hj
      rw [List.getElem?_eq_none (by omega)]
      rfl
    | some v =>
      obtain ⟨en, hen, hv⟩ := it.2 j v (by rw [← Array.getElem?_toList]; exact hj)
      rw [entry_at he j] at hen
      obtain ⟨b, hb, e2⟩ := Option.map_eq_some_iff.mp hen
      rw [hb, hv, ← e2]
      rfl
  have I1 : Inv X pins σ H { s with heap := h', toks := tk } := I.kept hk
  have hal : acc.toList.length = ks.length := by rw [ea, List.length_map, lL]
  have tup : ∀ y ∈ L, TS.TupInts h' (.ref y.1) y.2 := fun y hy => tupI_raw I1 (.inl (.inl (L3 y hy)))
  refine wpAny_bind (wpAny_newList ?_ (by rw [hal, sizeLine_eq]; omega))
  have hoL : (h'.push (seqObj "list" acc.toList.toArray 0)).get? h'.objs.size = some (seqObj "list" acc.toList.toArray 0) := Heap.get?_push_size _ rfl
  show wpAny _ _ _ _ _ { s with heap := h'.push (seqObj "list" acc.toList.toArray 0), toks := tk }
  have keep : ∀ b o, h'.get? b = some o → o.cls = .type "tuple" → (h'.push (seqObj "list" acc.toList.toArray 0)).get? b = some o := fun b o e _ => Heap.get?_push_of_some _ e
  have ok : TS.TupsOk h' d B acc.toList := fun v hv => by
    rw [ea] at hv
    obtain ⟨y, hy, rfl⟩ := List.mem_map.mp hv
    have hm : y.2 ∈ ks := by rw [← L1]; exact List.mem_map.mpr ⟨y, hy, rfl⟩
    exact ⟨y.2, tup y hy, hB _ hm⟩
  refine wpAny_bind (wpAny_holding (wpAny_call_entry PyProof.Rows.slot_list_sort ⟨_, hoL, rfl⟩ PyProof.Rows.entry_list_sort
    (TS.sort_tups (s := { s with heap := h'.push (seqObj "list" acc.toList.toArray 0), toks := tk }) hoL (by rw [hal]; exact h64) hd1 (ok.keeps keep) (fun v => TS.code B (TS.intsOf h' v)) (fun v hv ns t => ?_) fun out g1 g2 => ⟨_, rfl, ?_⟩) (PyProof.Rows.args_list_sort _)))
  · obtain ⟨ns0, t0, _⟩ := ok v hv
    have e : ns = ns0 := t.ints.symm.trans (t0.keeps keep).ints
    rw [e]
    show TS.code B (TS.intsOf h' v) = TS.code B ns0
    rw [t0.ints]
  · obtain ⟨e', he'⟩ := PyProof.Rows.sortedHeap_at (vs := acc.toList) (out := out) hoL
    -- the key objects with their numbers
    have un : ∀ y ∈ L, unref h' (Value.ref y.1) = y := fun y hy => by
      show (y.1, TS.intsOf h' (Value.ref y.1)) = y
      rw [(tup y hy).ints]
    have back : ∀ us : List Value, (∀ v ∈ us, ∃ y ∈ L, v = Value.ref y.1) → us = (us.map (unref h')).map (fun y => Value.ref y.1) := fun us hu => by
      rw [List.map_map]
      have : us.map (fun v => v) = us.map ((fun y => Value.ref y.1) ∘ unref h') := List.map_congr_left fun v hv => by
        obtain ⟨y, hy, rfl⟩ := hu v hv
        show Value.ref y.1 = Value.ref (unref h' (Value.ref y.1)).1
        rw [un y hy]
      rwa [List.map_id'] at this
    have hm : ∀ v ∈ out.toList, ∃ y ∈ L, v = Value.ref y.1 := fun v hv => by
      have := g1.mem_iff.mp hv
      rw [ea] at this
      obtain ⟨y, hy, rfl⟩ := List.mem_map.mp this
      exact ⟨y, hy, rfl⟩
    have hL : (acc.toList.map (unref h')) = L := by
      rw [ea, List.map_map]
      have : L.map (unref h' ∘ fun y => Value.ref y.1) = L.map (fun y => y) := List.map_congr_left fun y hy => un y hy
      rw [this, List.map_id']
    have hp : (out.toList.map (unref h')).Perm L := by
      have := g1.map (unref h')
      rwa [hL] at this
    have hlen : (((out.toList.map (unref h')).map fun y => V.ref y.1)).length ≤ sizeLine := by
      rw [List.length_map, hp.length_eq, lL, sizeLine_eq]
      omega
    have hv : Vals ((out.toList.map (unref h')).map fun y => V.ref y.1) out.toList := by
      rw [refs_V]
      conv => rhs; rw [back _ hm]
      rw [refs_U]
      exact vals_refs _
    refine wpAny_pure ⟨_, rfl, .ref h'.objs.size, upd H h'.objs.size (.lst ((out.toList.map (unref h')).map fun y => V.ref y.1)), I1.laid (t' := tk) (fun b u e => ?_) (Nat.le_refl _)
      (show ObjOk X.prog X.w _ _ _ (.lst ((out.toList.map (unref h')).map fun y => V.ref y.1)) from ⟨hlen, out.toList, e', hv, by rw [Array.toArray_toList]; exact he'⟩), rfl, q _ _ ?_ ?_ ?_ (I1.hok.fresh (Nat.le_refl _))⟩
    · have hb : b < h'.objs.size := Heap.lt_size e
      rw [PyProof.Rows.sortedHeap_old (Nat.ne_of_lt hb) (by rw [size_push']; exact Nat.lt_succ_of_lt hb)]
      exact Heap.get?_push_of_some _ e
    · rw [← L1]
      exact hp.map _
    · rw [List.map_map, List.pairwise_map]
      refine g2.imp_of_mem fun {u v} hu hv h => ?_
      obtain ⟨y, hy, rfl⟩ := hm u hu
      obtain ⟨y', hy', rfl⟩ := hm v hv
      exact h
    · intro y hy
      exact L3 y (hp.mem_iff.mp hy)
end Wk
/-! enumerate of a list or of a tuple. -/
namespace Wk
open PySem PySem.Spec PyProof.Rows L2
open AutoSeq1 (wpAny_loadPart')
theorem newEnumT (l : Addr) (items : Array Value) (n : Nat) (dct : Option Addr) (sl : Array (Option Value)) :
    Meets (Builtin.«enumerate.__new__» ⟨[.type "enumerate", .ref l], []⟩) (fun _ R s => s.heap.get? l = some { cls := .type "tuple", dict := dct, data := .seq items n, slots := sl } ∧
      R (.ok (.ret (.ref (s.heap.push { cls := .type "tuple_iterator", data := .fields #[.ref l, .int 0 0] }).objs.size)))
        { s with heap := (s.heap.push { cls := .type "tuple_iterator", data := .fields #[.ref l, .int 0 0] }).push { cls := .type "enumerate", data := .fields #[.none, .bool false, .ref s.heap.objs.size, rawInt 0, .none, .none] } }) :=
  .of_wp fun prog w A R s h => by
    obtain ⟨hp, g, d, tk, os⟩ := s
    obtain ⟨hl, h⟩ := h
    have hsub := sub_enumerate
    have hL : Heap.IsTuple (Shared.heap ⟨hp, g, d, tk, os⟩) l items := ⟨_, hl, rfl, n, rfl⟩
    wp_walk using wpAny_loadPart' hl
    refine wpAny_stack_any fun st => wpAny_pure ?_
    split
    · rename_i c _ _ _ _ _
      cases (c == Value.type "enumerate") <;> (wp_walk using wpAny_loadPart' hl, wpAny_pyIter_tuple hL; exact ⟨_, rfl, h⟩)
    · wp_walk using wpAny_loadPart' hl, wpAny_pyIter_tuple hL
      exact ⟨_, rfl, h⟩
section
variable {prog : Program} {w : World} {A : Around} {E : Value → Shared → Prop} {s : Shared}
theorem callEnumT {l : Addr} {items : Array Value} {Q : Value → Shared → Prop} (hL : s.heap.IsTuple l items)
    (h : ∀ h', IsEnum h' (s.heap.objs.size + 1) s.heap.objs.size 0 .none → h'.IsTupleIter s.heap.objs.size l 0 → (∀ b o, s.heap.get? b = some o → h'.get? b = some o) → Q (.ref (s.heap.objs.size + 1)) { s with heap := h' }) :
    wpAny (model prog w) A (call (.type "enumerate") [.ref l]) Q E s := by
  obtain ⟨⟨c, dct, dt, sl⟩, hl, hc, n, hd⟩ := hL
  cases (show c = .type "tuple" from hc)
  cases (show dt = .seq items n from hd)
  refine callType_new F.called_enumerate (by decide) (F.typeCall_enumerate_1 _) (F.newCall_enumerate_1 _) (fun obj => F.args_object_init_2 obj _) F.entry_enumerate_new (newEnumT l items n dct sl) ⟨hl, ?_⟩
  have hz : (s.heap.push { cls := .type "tuple_iterator", data := .fields #[.ref l, .int 0 0] }).objs.size = s.heap.objs.size + 1 := Heap.size_push ..
  show _ ∧ _
  rw [hz]
  have he : IsEnum ((s.heap.push { cls := .type "tuple_iterator", data := .fields #[.ref l, .int 0 0] }).push { cls := .type "enumerate", data := .fields #[.none, .bool false, .ref s.heap.objs.size, rawInt 0, .none, .none] }) (s.heap.objs.size + 1) s.heap.objs.size 0 .none := by
    have q := Heap.get?_push_size (s.heap.push { cls := .type "tuple_iterator", data := .fields #[.ref l, .int 0 0] }) (o := { cls := .type "enumerate", data := .fields #[.none, .bool false, .ref s.heap.objs.size, rawInt 0, .none, .none] }) rfl
    rwa [hz] at q
  exact ⟨⟨_, he, rfl⟩, h _ he ⟨_, Heap.get?_push_of_some _ (Heap.get?_push_size _ rfl), rfl, rfl⟩ fun b o x => Heap.get?_push_of_some _ (Heap.get?_push_of_some _ x)⟩
end
/-- the tuple at a, each item in a new pair -/
def IteT (K : PySem.W.Frag) (a : Addr) : It :=
  ⟨fun i H => ∃ (xs : List V) (x : V), SqT K H a xs ∧ xs[i]? = some x, fun i H v H' => ∃ T x, v = .ref T ∧ H T = none ∧ H' = upd H T (.tup [.int (i : Nat), x]) ∧ ∀ xs, SqT K H a xs → xs[i]? = some x, fun i H => ∃ xs : List V, SqT K H a xs ∧ xs.length = i⟩
theorem turnEnumT {P : Program} {w : World} {K : PySem.W.Frag} {elts : List Expr} {kk : Nat} {tpos : Pos} (a e it : Addr) :
    Turn P w K (.Tuple elts kk tpos) (IteT K a) [e, it] e (fun i h => (∃ old, IsEnum h e it ((i : Nat) : Int) old) ∧ h.IsTupleIter it a i ∧ e ≠ it) where
  mem := by simp
  obj := fun i h st b hb => by
    obtain ⟨⟨old, he⟩, ⟨o, ho, hc, hd⟩, _⟩ := st
    rcases (show b = e ∨ b = it by simpa using hb) with z | z
    · rw [z]; exact ⟨_, he, fun v q => nomatch q⟩
    · rw [z]; exact ⟨o, ho, fun v q => by rw [hd] at q; cases q⟩
  keep := fun i h h' st k => let ⟨⟨old, he⟩, hi, hne⟩ := st; ⟨⟨old, k e (by simp) _ he⟩, hi.at fun o q => k it (by simp) o q, hne⟩
  item := by
    intro X hP hw hK hc i pins s σ H E I hf st hg
    subst hP hw hK
    obtain ⟨⟨old, he⟩, hit, hne⟩ := st
    obtain ⟨xs, x, hq, hx⟩ := hg
    obtain ⟨its, rv, p, hz⟩ := I.tuple hq
    obtain ⟨u, hu, ru⟩ := rv.get hx
    have hel : e < s.heap.objs.size := Heap.lt_size he
    have hil : it < s.heap.objs.size := by obtain ⟨_, q, _⟩ := hit; exact Heap.lt_size q
    have hta : a ≠ it := fun z => by
      obtain ⟨o, h1, h2, _⟩ := p
      obtain ⟨o', h1', h2', _⟩ := hit
      rw [z, h1'] at h1
      cases h1
      rw [h2'] at h2
      exact absurd h2 (by decide)
    have hte : e ≠ a := fun z => by
      obtain ⟨o, h1, h2, _⟩ := p
      rw [← z, he] at h1
      cases h1
      exact absurd (show Value.type "enumerate" = .type "tuple" from h2) (by decide)
    have hi : i < its.toArray.size := by simpa using (List.getElem?_eq_some_iff.mp hu).1
    refine wpAny_pyNext_enum_itemD (PySem.Draws.tuple (prog := X.prog) (w := X.w) (A := X.A.in1) (I.ok.hd hc) it a hta its.toArray) he ⟨hit, p⟩ hi hne (by simp [hne, hte]) fun u' h' tk hu' ho hst hT hsz hk => ?_
    have eu : u' = u := by
      have : its.toArray[i]? = some u' := hu'
      rw [List.getElem?_toArray, hu] at this
      exact (Option.some.inj this).symm
    subst eu
    refine ⟨_, rfl, wpAny_letOwnedTupleGo_enum (s := { s with heap := h', toks := tk + 1 }) ho fun h'' he' sb => ?_⟩
    have hT2 : h''.get? s.heap.objs.size = some { cls := .type "tuple", data := .seq #[.int i tk, u'] } := (sb.2 _ (Nat.ne_of_gt hel)).trans hT
    have new : ObjOk X.prog X.w (upd H s.heap.objs.size (.tup [.int (i : Nat), x])) h'' s.heap.objs.size (.tup [.int (i : Nat), x]) :=
      ⟨by show 2 ≤ sizeLine; decide, [.int i tk, u'], .cons ⟨_, rfl⟩ (.cons ru .nil), ⟨_, hT2, rfl, _, rfl⟩⟩
    have I1 : Inv X pins σ (upd H s.heap.objs.size (.tup [.int (i : Nat), x])) { s with heap := h'', toks := tk + 1 } :=
      I.turnedNew (ch := [e, it]) (fun b ob hb q => (sb.2 b (fun z => hb (by simp [z]))).trans (hk b ob (fun z => hb (by simp [z])) (fun z => hb (by simp [z])) q)) hf (Nat.le_refl _) new
    refine ⟨.ref s.heap.objs.size, _, I1, rfl, ⟨_, x, rfl, I.hok.fresh (Nat.le_refl _), rfl, fun ys hy => by rw [I.tuple_inj hy hq]; exact hx⟩, ⟨⟨u', ?_⟩, hst.1.at fun o q => (sb.2 it (Ne.symm hne)).trans q, hne⟩, fun b hb => ?_⟩
    · rw [show ((i + 1 : Nat) : Int) = (i : Int) + 1 by omega]
      exact he'
    · have hb' : b < s.heap.objs.size := by
        rcases (show b = e ∨ b = it by simpa using hb) with z | z
        · rw [z]; exact hel
        · rw [z]; exact hil
      rw [upd_ne (Nat.ne_of_lt hb')]
      exact (hf b hb).1
  done := by
    intro X hP hw hK hc i pins s σ H E I hf st hg
    subst hP hw hK
    obtain ⟨⟨old, he⟩, hit, hne⟩ := st
    obtain ⟨xs, hq, hx⟩ := hg
    obtain ⟨its, rv, p, hz⟩ := I.tuple hq
    obtain ⟨f0, f1, f2, f3, f4, f5⟩ := hf it (by simp)
    have hta : a ≠ it := fun z => by
      obtain ⟨o, h1, h2, _⟩ := p
      obtain ⟨o', h1', h2', _⟩ := hit
      rw [z, h1'] at h1
      cases h1
      rw [h2'] at h2
      exact absurd h2 (by decide)
    have hl : i = its.toArray.size := by rw [List.size_toArray, ← rv.length]; exact hx.symm
    exact wpAny_pyNext_enum_endD (PySem.Draws.tuple (prog := X.prog) (w := X.w) (A := X.A.in1) (I.ok.hd hc) it a hta its.toArray) he ⟨hl ▸ hit, p⟩ fun h' eb => ⟨rfl, I.turned (t' := s.toks) (fun b o hb q => eb b o hb q) f0 f1 f3 f4 f5⟩
  self := fun A i s Q E st h => let ⟨⟨_, he⟩, _⟩ := st; wpAny_pyIter_enum he h
/-- enumerate(x), x a list or a tuple -/
def iEnumS (K : PySem.W.Frag) (ta : TA) : TI := fun σ H R => ta σ H fun vs H1 => ∃ a xs, vs = [.ref a] ∧ ((SqL K H1 a xs ∧ R (Ite K a) H1) ∨ (SqT K H1 a xs ∧ R (IteT K a) H1))
theorem pi_enumS {X : Cx} {e : Expr} {ta : TA} {p pos tpos : Pos} {elts : List Expr} {kk : Nat} (hg : Gl X "enumerate") (hm : X.mg "enumerate" = none) (ha : PA X [e] ta) (hs : starEach [e] X.env = [(false, eval e X.env)] := by rfl) :
    PI X (.Tuple elts kk tpos) (.Call (.Name "enumerate" p) [e] [] pos) (iEnumS X.K ta) := by
  refine ⟨fun pins s σ H R I h => ?_⟩
  refine Call_ (ld_blt I hg hm boot_enumerate (PyProof.Rows.callWith_type1 (thn (ha.run pos pins s σ H _ I h) fun us s1 ⟨vs, H1, I1, r1, q1⟩ => ?_) hs rfl))
  obtain ⟨a, xs, rfl, q⟩ := q1
  obtain ⟨u, rfl, ru⟩ := r1.one
  cases (show u = Value.ref a from ru)
  have fp : ∀ b ∈ [s1.heap.objs.size + 1, s1.heap.objs.size], FpOk X pins H1 b := fun b hb => by
    have hle : s1.heap.objs.size ≤ b := by
      rcases (show b = s1.heap.objs.size + 1 ∨ b = s1.heap.objs.size by simpa using hb) with z | z <;> omega
    exact I1.fpOk hle (I1.hok.fresh hle)
  rcases q with ⟨hq, q⟩ | ⟨hq, q⟩
  · obtain ⟨its, rv, p', hz⟩ := I1.list hq
    refine call_enumerate_list p'.isList fun h' he hit hsz hk => wpAny_pyIter_enum he ?_
    exact ⟨s1.heap.objs.size + 1, [s1.heap.objs.size + 1, s1.heap.objs.size], _, _, H1, rfl, I1.kept (t' := s1.toks) hk, turn_enum a (s1.heap.objs.size + 1) s1.heap.objs.size, ⟨⟨.none, he⟩, hit, Nat.succ_ne_self _⟩, fp, q⟩
  · obtain ⟨its, rv, p', hz⟩ := I1.tuple hq
    refine callEnumT p' fun h' he hit hk => wpAny_pyIter_enum he ?_
    exact ⟨s1.heap.objs.size + 1, [s1.heap.objs.size + 1, s1.heap.objs.size], _, _, H1, rfl, I1.kept (t' := s1.toks) hk, turnEnumT a (s1.heap.objs.size + 1) s1.heap.objs.size, ⟨⟨.none, he⟩, hit, Nat.succ_ne_self _⟩, fp, q⟩
end Wk
/-! The bag of draws: made of the script, drawn from. -/
namespace T22
open PySem PySem.Spec PyProof.Rows L2 Wk
def top (i : Nat) : Stmt := PySem.Challenge.pw_contentties_k22_webs_refused.main.body.getD i (.Pass ⟨0, 0, 0, 0⟩)
abbrev sBag : Stmt := top 25
abbrev sTake : Stmt := top 26
/-! ### the data -/
/-- a bag stands at b: three numbers and the script's sizes; at most n of them were taken -/
structure BagAt (H : Hp) (b l : Addr) (n : Nat) : Prop where
  ex : ∃ (x0 x1 x2 : Int) (cs : List Int), H b = some (.lst [.int x0, .int x1, .int x2, .ref l]) ∧ H l = some (.lst (cs.map V.int)) ∧ (∀ c ∈ cs, 0 ≤ c) ∧ 0 ≤ x0 ∧ 0 ≤ x1 ∧ x1 < 2147483647 ∧ 0 ≤ x2 ∧ x2 ≤ n ∧ cs.length ≤ 63
theorem BagAt.mono {H : Hp} {b l : Addr} {n m : Nat} (B : BagAt H b l n) (h : n ≤ m) : BagAt H b l m := by
  obtain ⟨x0, x1, x2, cs, h1, h2, h3, h4, h5, h6, h7, h8, h9⟩ := B.ex
  exact ⟨x0, x1, x2, cs, h1, h2, h3, h4, h5, h6, h7, by omega, h9⟩
theorem BagAt.same {H H' : Hp} {b l : Addr} {n : Nat} (B : BagAt H b l n) (h : Same H H') : BagAt H' b l n := by
  obtain ⟨x0, x1, x2, cs, h1, h2, h3⟩ := B.ex
  exact ⟨x0, x1, x2, cs, h _ _ h1, h _ _ h2, h3⟩
/-- all that was tracked stands, but at b -/
def But (b : Addr) (H H' : Hp) : Prop := ∀ c o, c ≠ b → H c = some o → H' c = some o
theorem But.refl (b : Addr) (H : Hp) : But b H H := fun _ _ _ h => h
theorem But.trans {b : Addr} {H H1 H2 : Hp} (x : But b H H1) (y : But b H1 H2) : But b H H2 := fun c o hc h => y c o hc (x c o hc h)
theorem But.of {b : Addr} {H H' : Hp} (x : Same H H') : But b H H' := fun c o _ h => x c o h
theorem But.upd (b : Addr) (H : Hp) (o : HO) : But b H (upd H b o) := fun c u hc h => by rw [upd_ne hc]; exact h
theorem same_upd {H : Hp} {p : Addr} {o : HO} (h : H p = none) : Same H (upd H p o) := fun b x e => by
  rw [upd_ne (ne_of_none e h)]
  exact e
/-! ### promises -/
def spBag (K : PySem.W.Frag) : Sp := fun vs H Q _ => ∃ (a : Addr) (ns : List Int), vs = [.ref a] ∧ SqL K H a (ns.map V.int) ∧ ns.length ≤ 63 ∧ ∀ (H' : Hp) (b l : Addr), Same H H' → H b = none → BagAt H' b l 0 → Q (.ref b) H'
def spTake : Sp := fun vs H Q _ => ∃ (b l : Addr) (m : Int) (n : Nat), vs = [.ref b, .int m] ∧ 0 < m ∧ m < 2 ^ 62 ∧ BagAt H b l n ∧ n ≤ 1000000 ∧
  ∀ (r : Int) (H' : Hp), 0 ≤ r → r < m → BagAt H' b l (n + 1) → But b H H' → Q (.int r) H'
theorem scB : FnScope ["_law_script", "_law_cell"] ["_law_script"] (defScope sBag) := ⟨rfl, rfl, rfl, by decide +kernel, rfl, by decide +kernel, by decide +kernel⟩
theorem cut63 (xs : List V) : cutV xs none (some 63) = xs.take 63 := by
  unfold cutV
  rw [HT.sIx_none, show HT.sIx xs.length xs.length (some 63) = min 63 xs.length from HT.sIx_nat xs.length xs.length 63]
  rw [List.drop_zero, Nat.sub_zero]
  by_cases h : xs.length ≤ 63
  · rw [Nat.min_eq_right h, List.take_of_length_le (Nat.le_refl _), List.take_of_length_le h]
  · rw [Nat.min_eq_left (by omega)]
section
variable {P : Program} {w : World} {K : PySem.W.Frag} {mg : Str → Option Value} {base : Heap}
theorem ok_bag {f : Addr} {fd : FuncData} {k : Nat} (F : Fun K "_law_bag" "_law_bag" sBag f fd) (ma : mg "abs" = none) : FnOk P w K mg base CX0 (k + 1) f fd ["_law_script"] (spBag K) := by
  refine F.ok scB (fun vs H Q E h => ?_) (fun cdv A outer s H vs Q E hr h => ?_)
  · obtain ⟨a, ns, rfl, _⟩ := h
    rfl
  · obtain ⟨a, ns, rfl, hS, hlen, q⟩ := h
    refine ⟨_, pss_one (ps_ret (pe_lst (pa_cons pe_int (pa_cons pe_int (pa_cons pe_int (pa_cons
      (pe_lc (own := [("_law_cell", 1)]) (g := gName 1) (tt := tYes) rfl scB.nd (pi_list (pe_slice sl_list (pv 0) po_none (po_some pe_int))) (blkOk_by (N := ["_law_script", "_law_cell"]) (sc := defScope sBag) (by decide +kernel))
        (fun _ _ _ _ _ => pg_name (i := 1) scB.nd rfl (Or.inl rfl)) (fun _ _ _ _ _ => pts_nil) (fun _ _ _ _ _ => pe_callB call_abs (by rfl) ma (by decide +kernel) (pa_cons (pv 1) pa_nil))) pa_nil)))))), ?_⟩
    refine ⟨.ref a, rfl, 63, rfl, a, ns.map V.int, rfl, hS, fun c nc => ?_⟩
    refine ⟨c, rfl, ⟨_, .inl (.inl upd_same)⟩, fun D nD => ?_⟩
    rw [cut63, ← List.map_take]
    rw [cut63, ← List.map_take] at nD
    generalize hcs : ns.take 63 = cs at nD ⊢
    have hl : cs.length ≤ 63 := by rw [← hcs, List.length_take]; omega
    have ncD : c ≠ D := ne_of_none upd_same nD
    have s1 : Same H (upd H c (.lst (cs.map V.int))) := same_upd nc
    have nD0 : H D = none := s1.free nD
    refine lc_list (K := K) (a := c) (xs := cs.map V.int) (fun i H2 => Same H H2 ∧ H2 c = some (.lst (cs.map V.int)) ∧ H2 D = some (.lst (((cs.take i).map fun z => if z < 0 then -z else z).map V.int))) ?_ (fun i H2 _ h2 => .inl (.inl h2.2.1)) ?_ ?_
    · exact ⟨fun b o z => by rw [upd_ne (ne_of_none z nD0)]; exact s1 b o z, by rw [upd_ne ncD]; exact upd_same, by rw [upd_same]; rfl⟩
    · rintro i x H2 hx ⟨g1, g2, g3⟩
      obtain ⟨z, hz, rfl⟩ : ∃ z, cs[i]? = some z ∧ x = V.int z := by
        rw [List.getElem?_map] at hx
        cases e : cs[i]? with
        | none => rw [e] at hx; cases hx
        | some z => rw [e] at hx; exact ⟨z, rfl, (Option.some.inj hx).symm⟩
      have hi : i < cs.length := (List.getElem?_eq_some_iff.mp hz).1
      refine ⟨rfl, .int z, rfl, z, rfl, _, g3, ?_, ?_, ?_, ?_⟩
      · rw [List.length_map, List.length_map, List.length_take]
        exact Nat.lt_of_le_of_lt (Nat.min_le_left _ _) (small1000 (by omega))
      · intro b o e
        rw [upd_ne (ne_of_none e nD0)]
        exact g1 b o e
      · rw [upd_ne ncD]; exact g2
      · rw [upd_same, List.take_add_one, hz, List.map_append, List.map_append]
        rfl
    · rintro H2 ⟨g1, g2, g3⟩
      rw [List.length_map, List.take_length] at g3
      refine ⟨(by show 4 ≤ sizeLine; decide), fun b nb => ?_⟩
      refine q _ b D (fun x o e => by rw [upd_ne (ne_of_none (g1 x o e) nb)]; exact g1 x o e) (g1.free nb) ⟨0, 1234567891, 0, _, upd_same, by rw [upd_ne (ne_of_none g3 nb)]; exact g3, ?_, by decide, by decide, by decide, by decide, by decide, by rw [List.length_map]; exact hl⟩
      intro y hy
      obtain ⟨z, _, rfl⟩ := List.mem_map.mp hy
      split <;> omega
end
end T22
namespace T22
open PySem PySem.Spec PyProof.Rows L2 Wk
/-- o[i] of a list, i from 0 on -/
def rGetN : V → V → Hp → VK → Prop := fun o i H Q => ∃ (p : Addr) (xs : List V) (j : Nat) (v : V), o = .ref p ∧ i = .int (j : Int) ∧ H p = some (.lst xs) ∧ xs[j]? = some v ∧ Q v H
theorem get_list {X : Cx} : PGet X rGetN := by
  intro pins s σ H o i ov iv Q I ro ri h
  obtain ⟨p, xs, j, v, rfl, rfl, hp, hv, q⟩ := h
  cases (show ov = Value.ref p from ro)
  obtain ⟨t, rfl⟩ := (show ∃ t, iv = Value.int (j : Int) t from ri)
  obtain ⟨its, r, pl, hz⟩ := I.list (.inl (.inl hp))
  obtain ⟨u, hu, ru⟩ := r.get hv
  have hj : j < xs.length := (List.getElem?_eq_some_iff.mp hv).1
  rw [sizeLine_eq] at hz
  exact wpAny_getItem_list pl.isList (by omega) (by omega) (by simpa using hu) ⟨v, H, I, ru, q⟩
theorem scT : FnScope ["_law_bag_here", "_law_many", "_law_cell", "_law_mixed", "_law_drawn", "_law_early", "_law_second"] ["_law_bag_here", "_law_many"] (defScope sTake) := ⟨rfl, rfl, rfl, by decide +kernel, rfl, by decide +kernel, by decide +kernel⟩
/-- the bag's parts, as they stand -/
structure Parts (H : Hp) (b l : Addr) (x0 x1 x2 : Int) (cs : List Int) : Prop where
  hb : H b = some (.lst [.int x0, .int x1, .int x2, .ref l])
  hl : H l = some (.lst (cs.map V.int))
  c0 : ∀ c ∈ cs, 0 ≤ c
  cl : cs.length ≤ 63
theorem Parts.ne {H : Hp} {b l : Addr} {x0 x1 x2 : Int} {cs : List Int} (p : Parts H b l x0 x1 x2 cs) : l ≠ b := fun e => by
  have h1 := p.hb
  have h2 := p.hl
  rw [e, h1] at h2
  have h3 := HO.lst.inj (Option.some.inj h2)
  match cs, h3 with
  | [a, c, d, f], h3 => simp at h3
theorem Parts.put {H : Hp} {b l : Addr} {x0 x1 x2 : Int} {cs : List Int} (p : Parts H b l x0 x1 x2 cs) (y0 y1 y2 : Int) : Parts (upd H b (.lst [.int y0, .int y1, .int y2, .ref l])) b l y0 y1 y2 cs :=
  ⟨upd_same, by rw [upd_ne p.ne]; exact p.hl, p.c0, p.cl⟩
section
variable {P : Program} {w : World} {K : PySem.W.Frag} {mg : Str → Option Value} {base : Heap}
theorem ok_take {f : Addr} {fd : FuncData} {k : Nat} (F : Fun K "_law_take" "_law_take" sTake f fd) (ml : mg "len" = none) (mi : mg "int" = none) : FnOk P w K mg base CX0 (k + 1) f fd ["_law_bag_here", "_law_many"] spTake := by
  refine F.ok scT (fun vs H Q E h => ?_) (fun cdv A outer s H vs Q E hr h => ?_)
  · obtain ⟨b, l, m, n, rfl, _⟩ := h
    rfl
  · obtain ⟨b, l, m, n, rfl, m0, m1, B, hn, q⟩ := h
    refine ⟨_, C8.pss_cut (ps_if (pt_cmpR op_eq (pe_ix ix_list (pv 0) pe_int (fun _ _ => rfl)) pe_int (nomark _))
        (pss_cons (ps_set (i := 2) scT.nd rfl (Or.inl rfl) pe_int)
        (C8.pss_cut (ps_if (pt_cmpR op_lt (pe_ix ix_list (pv 0) pe_int (fun _ _ => rfl)) (pe_callB call_len_seq (by rfl) ml PySem.boot_len (pa_cons (pe_ix ix_list (pv 0) pe_int (fun _ _ => rfl)) pa_nil)) (nomark _))
          (pss_one (ps_set (i := 2) scT.nd rfl (Or.inl rfl) (pe_ix ix_list (pe_ix ix_list (pv 0) pe_int (fun _ _ => rfl)) (pe_ix ix_list (pv 0) pe_int (fun _ _ => rfl)) (fun _ _ => rfl)))) pss_nil)
        (pss_cons (ps_augS (pv 0) pe_int get_list pe_int ip_add set_list)
        (C8.pss_cut (ps_if (pt_cmpR op_ge (pv 2) pe_int (nomark _)) (pss_one (ps_asg (pv 2) (pg_sub (pv 0) pe_int set_list))) pss_nil)
        (pss_cons (ps_set (i := 3) scT.nd rfl (Or.inl rfl) (pe_op op_add (pe_op op_add (pe_op op_mul (pe_ix ix_list (pv 0) pe_int (fun _ _ => rfl)) pe_int)
            (pe_op op_mod (pe_callTy call_int1 (by rfl) mi (by decide +kernel) (pa_cons (pv 2) pa_nil)) pe_int)) (pe_op op_mul pe_int (pe_ix ix_list (pv 0) pe_int (fun _ _ => rfl)))))
        (pss_one (ps_asg (pe_op op_mod (pe_callTy call_int1 (by rfl) mi (by decide +kernel) (pa_cons (pv 3) pa_nil)) pe_int) (pg_sub (pv 0) pe_int set_list)))))))) pss_nil)
      (pss_cons (ps_if (pt_cmpR op_gt (pe_ix ix_list (pv 0) pe_int (fun _ _ => rfl)) pe_int (nomark _))
        (pss_cons (ps_set (i := 4) scT.nd rfl (Or.inl rfl) (pe_op op_mod (pe_callTy call_int1 (by rfl) mi (by decide +kernel) (pa_cons (pe_ix ix_list (pv 0) pe_int (fun _ _ => rfl)) pa_nil)) (pv 1)))
        (pss_cons (ps_asg (pe_op op_fdivW (pe_callTy call_int1 (by rfl) mi (by decide +kernel) (pa_cons (pe_ix ix_list (pv 0) pe_int (fun _ _ => rfl)) pa_nil)) (pv 1)) (pg_sub (pv 0) pe_int set_list))
        (pss_one (ps_ret (pv 4))))) pss_nil)
      (pss_cons (ps_set (i := 5) scT.nd rfl (Or.inl rfl) (pe_op op_mod (pe_callTy call_int1 (by rfl) mi (by decide +kernel) (pa_cons (pe_op op_mul (pe_op op_add (pe_ix ix_list (pv 0) pe_int (fun _ _ => rfl)) pe_int) pe_int) pa_nil)) pe_int))
      (pss_cons (ps_set (i := 6) scT.nd rfl (Or.inl rfl) (pe_op op_mod (pe_callTy call_int1 (by rfl) mi (by decide +kernel) (pa_cons (pe_op op_mul (pe_op op_mod (pe_callTy call_int1 (by rfl) mi (by decide +kernel)
          (pa_cons (pe_op op_mul (pv 5) (pv 5)) pa_nil)) pe_int) pe_int) pa_nil)) pe_int))
      (pss_one (ps_ret (pe_op op_mod (pe_callTy call_int1 (by rfl) mi (by decide +kernel) (pa_cons (pe_op op_fdiv (pv 6) pe_int) pa_nil)) (pv 1))))))), ?_⟩
    obtain ⟨x0, x1, x2, cs, h1, h2, h3, h4, h5, h6, h7, h8, h9⟩ := B.ex
    have p0 : Parts H b l x0 x1 x2 cs := ⟨h1, h2, h3, h9⟩
    -- behind the first if
    refine ⟨fun σ H2 => ∃ (v2 v3 : Option V) (y0 y1 y2 : Int), σ = [some (.ref b), some (.int m), v2, v3, none, none, none] ∧ Parts H2 b l y0 y1 y2 cs ∧ 0 ≤ y0 ∧ 0 ≤ y1 ∧ y1 < 2147483647 ∧ 0 ≤ y2 ∧ y2 ≤ n + 1 ∧ But b H H2, ?_, ?_⟩
    · refine ⟨_, rfl, b, _, 0, _, rfl, rfl, .inl (.inl h1), rfl, rfl, _, rfl, ?_⟩
      refine ite2 (fun hc => ?_) (fun hc => ?_)
      · -- cell
        refine ⟨fun σ H2 => ∃ c : Int, 0 ≤ c ∧ σ = [some (.ref b), some (.int m), some (.int c), none, none, none, none] ∧ H2 = H, ?_, ?_⟩
        · refine ⟨_, rfl, b, _, 2, _, rfl, rfl, .inl (.inl h1), rfl, _, rfl, b, _, 3, _, rfl, rfl, .inl (.inl h1), rfl, l, _, rfl, .inl (.inl (.inl h2)), _, _, rfl, rfl, _, rfl, ?_⟩
          refine ite2 (fun hi => ?_) (fun hi => ?_)
          · have hi' : x2 < (cs.length : Int) := by simpa using hi
            have hx : (x2.toNat : Int) = x2 := Int.toNat_of_nonneg h7
            have hlt : x2.toNat < cs.length := by omega
            have e : (cs.map V.int)[x2.toNat]? = some (V.int cs[x2.toNat]) := by rw [List.getElem?_map, List.getElem?_eq_getElem hlt]; rfl
            have a1 := atI_nat e
            rw [hx] at a1
            refine ⟨_, rfl, b, _, 3, _, rfl, rfl, .inl (.inl h1), rfl, _, rfl, b, _, 2, _, rfl, rfl, .inl (.inl h1), rfl, l, _, x2, _, rfl, rfl, .inl (.inl h2), a1, cs[x2.toNat], h3 _ (List.getElem_mem hlt), rfl, rfl⟩
          · exact ⟨0, by decide, rfl, rfl⟩
        · rintro σ H2 ⟨c, hc0, rfl, hH⟩
          rw [hH]
          have e2 : ([V.int x0, V.int x1, V.int x2, V.ref l] : List V)[2]? = some (V.int x2) := rfl
          refine ⟨_, rfl, b, _, 2, _, rfl, rfl, h1, e2, x2, 1, rfl, rfl, b, _, 2, 2, rfl, rfl, h1, rfl, ?_⟩
          refine ⟨fun σ H2 => ∃ y0 : Int, 0 ≤ y0 ∧ σ = [some (.ref b), some (.int m), some (.int c), none, none, none, none] ∧ Parts H2 b l y0 x1 (x2 + 1) cs ∧ But b H H2, ?_, ?_⟩
          · refine ⟨_, rfl, _, _, rfl, rfl, _, rfl, ?_⟩
            refine ite2 (fun _ => ?_) (fun _ => ?_)
            · refine ⟨_, rfl, _, rfl, b, _, 0, 0, rfl, rfl, upd_same, rfl, ?_⟩
              rw [upd_upd]
              exact ⟨c, hc0, rfl, p0.put c x1 (x2 + 1), But.upd _ _ _⟩
            · exact ⟨x0, h4, rfl, p0.put x0 x1 (x2 + 1), But.upd _ _ _⟩
          · rintro σ H2 ⟨y0, g0, rfl, p, bt⟩
            refine ⟨_, rfl, b, _, 1, _, rfl, rfl, .inl (.inl p.hb), rfl, x1, 48271, rfl, rfl, .inr ⟨by decide, by decide⟩, _, rfl, .inl ⟨c, rfl, _, _, rfl, rfl, (by show (0 : Int) < 2147483647; decide), _, _, rfl, rfl,
              _, rfl, b, _, 2, _, rfl, rfl, .inl (.inl p.hb), rfl, _, _, rfl, rfl, .inl ⟨by decide, by decide⟩, _, _, rfl, rfl, ?_⟩⟩
            refine ⟨_, rfl, .inl ⟨_, rfl, _, _, rfl, rfl, (by show (0 : Int) < 2147483647; decide), _, rfl, b, _, 1, 1, rfl, rfl, p.hb, rfl, ?_⟩⟩
            exact ⟨_, _, y0, _, x2 + 1, rfl, p.put y0 _ (x2 + 1), g0, Int.emod_nonneg _ (by decide), Int.emod_lt_of_pos _ (by decide), by omega, by omega, bt.trans (But.upd _ _ _)⟩
      · refine ⟨none, none, x0, x1, x2, rfl, p0, h4, h5, h6, h7, by omega, But.refl b H⟩
    · rintro σ H2 ⟨v2, v3, y0, y1, y2, rfl, p, g0, g1, g2, g3, g4, bt⟩
      refine ⟨_, rfl, b, _, 0, _, rfl, rfl, .inl (.inl p.hb), rfl, _, _, rfl, rfl, _, rfl, ?_⟩
      refine ite2 (fun _ => ?_) (fun _ => ?_)
      · refine ⟨_, rfl, b, _, 0, _, rfl, rfl, .inl (.inl p.hb), rfl, .inl ⟨y0, rfl, _, rfl, _, _, rfl, rfl, m0, ?_⟩⟩
        refine ⟨_, rfl, b, _, 0, _, rfl, rfl, .inl (.inl p.hb), rfl, .inl ⟨y0, rfl, _, rfl, _, _, rfl, rfl, wide_div (b := 62) m0 (by omega) (by decide) (by decide), ?_⟩⟩
        refine ⟨_, rfl, b, _, 0, 0, rfl, rfl, p.hb, rfl, ?_⟩
        refine ⟨_, rfl, ?_⟩
        have pp := p.put (y0 / m) y1 y2
        exact q _ _ (Int.emod_nonneg _ (by omega)) (Int.emod_lt_of_pos _ m0) ⟨y0 / m, y1, y2, cs, pp.hb, pp.hl, h3, Int.ediv_nonneg g0 (by omega), g1, g2, g3, by omega, h9⟩ (bt.trans (But.upd _ _ _))
      · refine ⟨_, rfl, b, _, 1, _, rfl, rfl, .inl (.inl p.hb), rfl, _, _, rfl, rfl, _, _, rfl, rfl, .inr ⟨by decide, by decide⟩, .inl ⟨_, rfl, _, _, rfl, rfl, (by show (0 : Int) < 1000000007; decide), ?_⟩⟩
        generalize he : (y1 + 1) * 39373 % 1000000007 = e5
        have b5 : 0 ≤ e5 ∧ e5 < 1000000007 := by rw [← he]; exact ⟨Int.emod_nonneg _ (by decide), Int.emod_lt_of_pos _ (by decide)⟩
        refine ⟨_, rfl, _, rfl, _, _, rfl, rfl, .inl ⟨by omega, by omega⟩, .inl ⟨_, rfl, _, _, rfl, rfl, (by show (0 : Int) < 998244353; decide), _, _, rfl, rfl, .inr ⟨by decide, by decide⟩, .inl ⟨_, rfl, _, _, rfl, rfl, (by show (0 : Int) < 998244353; decide), ?_⟩⟩⟩
        refine ⟨_, rfl, _, _, rfl, rfl, ⟨by decide, by decide⟩, .inl ⟨_, rfl, _, rfl, _, _, rfl, rfl, m0, ?_⟩⟩
        exact q _ _ (Int.emod_nonneg _ (by omega)) (Int.emod_lt_of_pos _ m0) ⟨y0, y1, y2, cs, p.hb, p.hl, h3, g0, g1, g2, g3, by omega, h9⟩ bt
end
end T22
/-! Kinds of values: is_whole, is_from_to, is_place. -/
namespace T22
open PySem PySem.Spec PyProof.Rows L2 Wk
abbrev sWhole : Stmt := top 9
abbrev sFromTo : Stmt := top 10
abbrev sPlace : Stmt := top 11
/-- an integer, no truth -/
def wholeB : V → Bool
  | .int _ => true
  | _ => false
def intB : V → Bool
  | .int _ => true
  | .bl _ => true
  | _ => false
def truthB : V → Bool
  | .bl _ => true
  | _ => false
/-- an integer from lo to hi -/
def fromToB (x : V) (lo hi : Int) : Bool := match x with
  | .int i => decide (lo ≤ i) && decide (i ≤ hi)
  | _ => false
theorem wholeB_of {x : V} : wholeB x = (intB x && !truthB x) := by cases x <;> rfl
theorem whole_int {x : V} (h : wholeB x = true) : ∃ i, x = .int i := by
  cases x <;> first | exact ⟨_, rfl⟩ | cases h
/-- any value of a kind that is known -/
structure AnyV (K : PySem.W.Frag) (H : Hp) (x : V) (t : Value) : Prop where
  ty : TyX K H x t
  int : PySem.W.kitOne K t (.type "int") = some (intB x)
  bl : PySem.W.kitOne K t (.type "bool") = some (truthB x)
section
variable {K : PySem.W.Frag} {H : Hp}
theorem any_int (i : Int) : AnyV K H (.int i) (.type "int") := ⟨.base (.int i), kit_ty (r := true) (by decide +kernel), kit_ty (r := false) (by decide +kernel)⟩
theorem any_bl (b : Bool) : AnyV K H (.bl b) (.type "bool") := ⟨.base (.bl b), kit_ty (r := true) (by decide +kernel), kit_ty (r := true) (by decide +kernel)⟩
theorem any_non : AnyV K H .non (.type "NoneType") := ⟨.base .non, kit_ty (r := false) (by decide +kernel), kit_ty (r := false) (by decide +kernel)⟩
theorem any_str (x : Str) : AnyV K H (.str x) (.type "str") := ⟨.base (.str x), kit_ty (r := false) (by decide +kernel), kit_ty (r := false) (by decide +kernel)⟩
theorem any_lst {a : Addr} {xs : List V} (h : H a = some (.lst xs)) : AnyV K H (.ref a) (.type "list") := ⟨.base (.lst h), kit_ty (r := false) (by decide +kernel), kit_ty (r := false) (by decide +kernel)⟩
theorem any_tup {a : Addr} {xs : List V} (h : H a = some (.tup xs)) : AnyV K H (.ref a) (.type "tuple") := ⟨.base (.tup h), kit_ty (r := false) (by decide +kernel), kit_ty (r := false) (by decide +kernel)⟩
end
def spWhole (K : PySem.W.Frag) : Sp := fun vs H Q _ => ∃ x t, vs = [x] ∧ AnyV K H x t ∧ Q (.bl (wholeB x)) H
def spFromTo (K : PySem.W.Frag) : Sp := fun vs H Q _ => ∃ x t lo hi, vs = [x, .int lo, .int hi] ∧ AnyV K H x t ∧ Q (.bl (fromToB x lo hi)) H
def spPlace (K : PySem.W.Frag) : Sp := fun vs H Q _ => ∃ x t n, vs = [x, .int n] ∧ AnyV K H x t ∧ Q (.bl (fromToB x 0 (n - 1))) H
theorem scW : FnScope ["thing"] ["thing"] (defScope sWhole) := ⟨rfl, rfl, rfl, by decide +kernel, rfl, by decide +kernel, by decide +kernel⟩
theorem scF : FnScope ["thing", "low", "high"] ["thing", "low", "high"] (defScope sFromTo) := ⟨rfl, rfl, rfl, by decide +kernel, rfl, by decide +kernel, by decide +kernel⟩
theorem scP : FnScope ["thing", "size"] ["thing", "size"] (defScope sPlace) := ⟨rfl, rfl, rfl, by decide +kernel, rfl, by decide +kernel, by decide +kernel⟩
section
variable {P : Program} {w : World} {K : PySem.W.Frag} {mg : Str → Option Value} {base : Heap}
theorem ok_whole {f : Addr} {fd : FuncData} {k : Nat} (F : Fun K "is_whole" "is_whole" sWhole f fd) (mi : mg "isinstance" = none) (mt : mg "int" = none) (mb : mg "bool" = none) : FnOk P w K mg base CX0 (k + 1) f fd ["thing"] (spWhole K) := by
  refine F.ok scW (fun vs H Q E h => ?_) (fun cdv A outer s H vs Q E hr h => ?_)
  · obtain ⟨x, t, rfl, _⟩ := h
    rfl
  · obtain ⟨x, t, rfl, a, q⟩ := h
    refine ⟨_, pss_one (ps_ret (pe_and (pe_callB call_isi (by rfl) mi (by decide +kernel) (pa_cons (pv 0) (pa_cons (pe_bltn (v := .ty "int") (u := .type "int") (by rfl) mt (by decide +kernel) rfl) pa_nil)))
      (pe_one (pe_not (pe_callB call_isi (by rfl) mi (by decide +kernel) (pa_cons (pv 0) (pa_cons (pe_bltn (v := .ty "bool") (u := .type "bool") (by rfl) mb (by decide +kernel) rfl) pa_nil))))))), ?_⟩
    refine ⟨x, rfl, x, _, _, _, _, rfl, .ty "int", a.ty, a.int, intB x, rfl, ?_⟩
    rw [wholeB_of] at q
    cases hi : intB x with
    | false => rw [hi] at q; exact q
    | true =>
      rw [hi] at q
      exact ⟨x, rfl, x, _, _, _, _, rfl, .ty "bool", a.ty, a.bl, truthB x, rfl, q⟩
theorem ok_fromTo {f fw : Addr} {fd fdw : FuncData} {k : Nat} (F : Fun K "is_from_to" "is_from_to" sFromTo f fd) (GW : FnOk P w K mg base CX0 k fw fdw ["thing"] (spWhole K)) (gW : mg "is_whole" = some (.ref fw)) (kW : PySem.W.keepIn K (.ref fw) = true)
    (bW : Binds K fdw ["thing"] []) : FnOk P w K mg base CX0 (k + 1) f fd ["thing", "low", "high"] (spFromTo K) := by
  refine F.ok scF (fun vs H Q E h => ?_) (fun cdv A outer s H vs Q E hr h => ?_)
  · obtain ⟨x, t, lo, hi, rfl, _⟩ := h
    rfl
  · obtain ⟨x, t, lo, hi, rfl, a, q⟩ := h
    refine ⟨_, pss_one (ps_ret (pe_and (pe_call GW hr rfl gW kW bW .nil pass0 (pa_cons (pv 0) pa_nil)) (pe_one (pe_chain op_le op_le (pv 1) (pv 0) (pv 2))))), ?_⟩
    refine ⟨x, rfl, x, t, rfl, a, wholeB x, rfl, ?_⟩
    cases hw : wholeB x with
    | false =>
      have e : fromToB x lo hi = false := by cases x <;> first | rfl | cases hw
      rw [e] at q
      exact q
    | true =>
      obtain ⟨i, rfl⟩ := whole_int hw
      refine ⟨_, rfl, _, rfl, lo, i, rfl, rfl, _, rfl, ?_⟩
      have e : fromToB (.int i) lo hi = (decide (lo ≤ i) && decide (i ≤ hi)) := rfl
      rw [e] at q
      by_cases h1 : lo ≤ i
      · rw [if_pos (by simpa using h1)]
        rw [decide_eq_true h1, Bool.true_and] at q
        exact ⟨_, rfl, i, hi, rfl, rfl, q⟩
      · rw [if_neg (by simpa using h1)]
        rw [decide_eq_false h1, Bool.false_and] at q
        exact q
theorem ok_place {f fw : Addr} {fd fdw : FuncData} {k : Nat} (F : Fun K "is_place" "is_place" sPlace f fd) (GW : FnOk P w K mg base CX0 k fw fdw ["thing", "low", "high"] (spFromTo K)) (gW : mg "is_from_to" = some (.ref fw)) (kW : PySem.W.keepIn K (.ref fw) = true)
    (bW : Binds K fdw ["thing", "low", "high"] []) : FnOk P w K mg base CX0 (k + 1) f fd ["thing", "size"] (spPlace K) := by
  refine F.ok scP (fun vs H Q E h => ?_) (fun cdv A outer s H vs Q E hr h => ?_)
  · obtain ⟨x, t, n, rfl, _⟩ := h
    rfl
  · obtain ⟨x, t, n, rfl, a, q⟩ := h
    refine ⟨_, pss_one (ps_ret (pe_call GW hr rfl gW kW bW .nil pass0 (pa_cons (pv 0) (pa_cons pe_int (pa_cons (pe_op op_sub (pv 1) pe_int) pa_nil))))), ?_⟩
    exact ⟨x, rfl, _, rfl, n, 1, rfl, rfl, x, t, 0, n - 1, rfl, a, q⟩
end
end T22
/-! Walks over a list or a tuple, whichever it is. -/
namespace Wk
open PySem PySem.Spec PyProof.Rows L2
/-- a list or a tuple -/
def SqS (K : PySem.W.Frag) (H : Hp) (a : Addr) (xs : List V) : Prop := SqL K H a xs ∨ SqT K H a xs
theorem SqS.ext {K : PySem.W.Frag} {H H' : Hp} {a : Addr} {xs : List V} (h : SqS K H a xs) (e : Ext H H') : SqS K H' a xs := h.elim (fun h => .inl (h.ext e)) fun h => .inr (h.ext e)
theorem walk_enumT {K : PySem.W.Frag} {a : Addr} {xs : List V} : Walk (IteT K a) xs.length (fun H => SqT K H a xs) (YPair (fun i => some (.int (i : Nat))) (fun i => xs[i]?)) := by
  refine ⟨fun i _ hi q => ⟨xs, xs[i], q, by simp [hi]⟩, fun _ q => ⟨xs, q, rfl⟩, fun i H v H' _ q y => ?_⟩
  obtain ⟨T, x, h1, h2, h3, h4⟩ := y
  exact ⟨T, .int (i : Nat), x, h1, h2, h3, rfl, h4 xs q⟩
/-- R of any walk of this kind that goes on while the object at a stays -/
def OnWalk (a : Addr) (n : Nat) (Y : Nat → Hp → V → Hp → Prop) (R : It → Hp → Prop) (H1 : Hp) : Prop := ∀ (J : It) (G : Hp → Prop), Walk J n G Y → (∀ H2, (∀ o, H1 a = some o → H2 a = some o) → G H2) → R J H1
theorem SqT.stay {K : PySem.W.Frag} {H H' : Hp} {a : Addr} {xs : List V} (h : SqT K H a xs) (e : ∀ o, H a = some o → H' a = some o) : SqT K H' a xs :=
  h.elim (fun h => .inl (h.elim (fun h => .inl (e _ h)) fun ⟨o, h⟩ => .inr ⟨o, e _ h⟩)) fun h => .inr h
theorem SqL.stay {K : PySem.W.Frag} {H H' : Hp} {a : Addr} {xs : List V} (h : SqL K H a xs) (e : ∀ o, H a = some o → H' a = some o) : SqL K H' a xs :=
  h.elim (fun h => .inl (h.elim (fun h => .inl (e _ h)) fun ⟨o, h⟩ => .inr ⟨o, e _ h⟩)) fun h => .inr h
def iEnumW (K : PySem.W.Frag) (ta : TA) : TI := fun σ H R => ta σ H fun vs H1 => ∃ a xs, vs = [.ref a] ∧ SqS K H1 a xs ∧ OnWalk a xs.length (YPair (fun i => some (.int (i : Nat))) (fun i => xs[i]?)) R H1
def iSeqW (K : PySem.W.Frag) (te : TE) : TI := fun σ H R => te σ H fun v H1 => ∃ a xs, v = .ref a ∧ SqS K H1 a xs ∧ OnWalk a xs.length (YAt xs) R H1
section
variable {X : Cx} {e : Expr} {ta : TA} {te : TE} {p pos tpos : Pos} {elts : List Expr} {kk : Nat} {tg : Expr}
theorem PI.weak {wi wi' : TI} (h : PI X tg e wi) (hw : ∀ σ H R, wi' σ H R → wi σ H R) : PI X tg e wi' := ⟨fun pins s σ H R I q => h.run pins s σ H R I (hw σ H R q)⟩
theorem pi_enumW (hg : Gl X "enumerate") (hm : X.mg "enumerate" = none) (hmono : ∀ (σ : L2.St) (H : Hp) (Q Q' : List V → Hp → Prop), (∀ vs H1, Q vs H1 → Q' vs H1) → ta σ H Q → ta σ H Q') (ha : PA X [e] ta) (hs : starEach [e] X.env = [(false, eval e X.env)] := by rfl) :
    PI X (.Tuple elts kk tpos) (.Call (.Name "enumerate" p) [e] [] pos) (iEnumW X.K ta) :=
  PI.weak (pi_enumS hg hm ha hs) fun σ H R q => hmono σ H _ _ (fun vs H1 z => by
    obtain ⟨a, xs, e, hq | hq, w⟩ := z
    · exact ⟨a, xs, e, .inl ⟨hq, w _ _ walk_enum fun H2 x => SqL.stay hq x⟩⟩
    · exact ⟨a, xs, e, .inr ⟨hq, w _ _ walk_enumT fun H2 x => SqT.stay hq x⟩⟩) q
theorem pi_seqW (he : PE X e te) : PI X tg e (iSeqW X.K te) := by
  refine ⟨fun pins s σ H R I h => ?_⟩
  refine thn (he.run pins s σ H _ I h) fun v s1 ⟨x, H1, I1, r1, q1⟩ => ?_
  obtain ⟨a, xs, rfl, hq, q⟩ := q1
  cases (show v = Value.ref a from r1)
  have fp : ∀ b ∈ [s1.heap.objs.size], FpOk X pins H1 b := fun b hb => by
    cases List.mem_singleton.mp hb
    exact I1.fpOk (Nat.le_refl _) (I1.hok.fresh (Nat.le_refl _))
  rcases hq with hq | hq
  · obtain ⟨its, rv, p, hz⟩ := I1.list hq
    exact wpAny_pyIter_list p.isList ⟨s1.heap.objs.size, [s1.heap.objs.size], _, _, H1, rfl, I1.kept (t' := s1.toks) fun b o e => Heap.get?_push_of_some _ e, turn_list a _, ⟨_, Heap.get?_push_size _ rfl, rfl, rfl⟩, fp, q _ _ walk_list fun H2 x => SqL.stay hq x⟩
  · obtain ⟨its, rv, p, hz⟩ := I1.tuple hq
    exact wpAny_pyIter_tuple (show s1.heap.IsTuple a its.toArray from p) ⟨s1.heap.objs.size, [s1.heap.objs.size], _, _, H1, rfl, I1.kept (t' := s1.toks) fun b o e => Heap.get?_push_of_some _ e, turn_tuple a _, ⟨_, Heap.get?_push_size _ rfl, rfl, rfl⟩, fp, q _ _ walk_tup fun H2 x => SqT.stay hq x⟩
end
/-- the type of a list or tuple, for isinstance -/
theorem SqT.tyX {K : PySem.W.Frag} {H : Hp} {a : Addr} {xs : List V} (h : SqT K H a xs) : TyX K H (.ref a) (.type "tuple") := by
  rcases h with (h | ⟨o, h⟩) | ⟨o, its, n, h, hc, _⟩
  · exact .base (.tup h)
  · exact .fTuple h
  · exact .kTuple h hc
theorem SqL.tyX {K : PySem.W.Frag} {H : Hp} {a : Addr} {xs : List V} (h : SqL K H a xs) : TyX K H (.ref a) (.type "list") := by
  rcases h with (h | ⟨o, h⟩) | ⟨o, its, n, h, hc, _⟩
  · exact .base (.lst h)
  · exact .base (.frz h)
  · exact .kList h hc
end Wk
/-! Pairs, ties, the constructor's arguments. -/
namespace T22
open PySem PySem.Spec PyProof.Rows L2 Wk
abbrev sPair : Stmt := top 16
abbrev sTie : Stmt := top 17
abbrev sNeed : Stmt := top 18
/-- two different places below n -/
def pairB (y z : V) (n : Int) : Bool := fromToB y 0 (n - 1) && (fromToB z 0 (n - 1) && !decide (y = z))
def tieB (u v m n : Int) : Bool := pairB (.int u) (.int v) n && fromToB (.int m) 0 1000000000
theorem fromTo_int {x : V} {lo hi : Int} (h : fromToB x lo hi = true) : ∃ i, x = .int i ∧ lo ≤ i ∧ i ≤ hi := by
  cases x <;> first | (cases h; done) | (simp only [fromToB, Bool.and_eq_true, decide_eq_true_eq] at h; exact ⟨_, rfl, h⟩)
theorem tieB_iff {u v m n : Int} : tieB u v m n = true ↔ 0 ≤ u ∧ u < n ∧ 0 ≤ v ∧ v < n ∧ u ≠ v ∧ 0 ≤ m ∧ m ≤ 1000000000 := by
  simp only [tieB, pairB, fromToB, Bool.and_eq_true, decide_eq_true_eq, Bool.not_eq_true', decide_eq_false_iff_not]
  constructor
  · rintro ⟨⟨⟨h1, h2⟩, ⟨h3, h4⟩, h5⟩, h6, h7⟩
    exact ⟨h1, by omega, h3, by omega, fun e => h5 (by rw [e]), h6, h7⟩
  · rintro ⟨h1, h2, h3, h4, h5, h6, h7⟩
    exact ⟨⟨⟨h1, by omega⟩, ⟨h3, by omega⟩, fun e => h5 (by injection e)⟩, h6, h7⟩
/-- a tuple of these three numbers -/
def Tr (K : PySem.W.Frag) (H : Hp) (x : V) (u v m : Int) : Prop := ∃ t, x = .ref t ∧ SqT K H t [.int u, .int v, .int m]
theorem Tr.same {K : PySem.W.Frag} {H H' : Hp} {x : V} {u v m : Int} (h : Tr K H x u v m) (s : Same H H') : Tr K H' x u v m := let ⟨t, e, q⟩ := h; ⟨t, e, q.ext s⟩
/-- items of ties: the values xs are these triples -/
def Trs (K : PySem.W.Frag) (H : Hp) : List V → List (Int × Int × Int) → Prop
  | [], [] => True
  | x :: xs, p :: ps => Tr K H x p.1 p.2.1 p.2.2 ∧ Trs K H xs ps
  | _, _ => False
theorem Trs.same {K : PySem.W.Frag} {H H' : Hp} (s : Same H H') : ∀ {xs : List V} {ps : List (Int × Int × Int)}, Trs K H xs ps → Trs K H' xs ps
  | [], [], _ => True.intro
  | _ :: _, _ :: _, h => ⟨h.1.same s, Trs.same s h.2⟩
  | [], _ :: _, h => h.elim
  | _ :: _, [], h => h.elim
theorem Trs.length {K : PySem.W.Frag} {H : Hp} : ∀ {xs : List V} {ps : List (Int × Int × Int)}, Trs K H xs ps → xs.length = ps.length
  | [], [], _ => rfl
  | _ :: _, _ :: _, h => by rw [List.length_cons, List.length_cons, Trs.length h.2]
  | [], _ :: _, h => h.elim
  | _ :: _, [], h => h.elim
theorem Trs.get {K : PySem.W.Frag} {H : Hp} : ∀ {xs : List V} {ps : List (Int × Int × Int)} {i : Nat} {x : V}, Trs K H xs ps → xs[i]? = some x → ∃ p, ps[i]? = some p ∧ Tr K H x p.1 p.2.1 p.2.2
  | x :: _, p :: _, 0, _, h, e => by cases e; exact ⟨p, rfl, h.1⟩
  | _ :: _, _ :: _, i + 1, _, h, e => Trs.get (i := i) h.2 e
  | [], [], _, _, _, e => by simp at e
  | [], _ :: _, _, _, h, _ => h.elim
  | _ :: _, [], _, _, h, _ => h.elim
def spPair (K : PySem.W.Frag) : Sp := fun vs H Q _ => ∃ x t n b, vs = [x, .int n] ∧ TyX K H x t ∧ ((PySem.W.kitOne K t (.type "tuple") = some false ∧ b = false) ∨ (PySem.W.kitOne K t (.type "tuple") = some true ∧ ∃ a xs, x = .ref a ∧ SqT K H a xs ∧
  ((xs.length ≠ 2 ∧ b = false) ∨ ∃ y z ty tz, xs = [y, z] ∧ AnyV K H y ty ∧ AnyV K H z tz ∧ b = pairB y z n))) ∧ Q (.bl b) H
def spTie (K : PySem.W.Frag) : Sp := fun vs H Q _ => ∃ x n u v m, vs = [x, .int n] ∧ Tr K H x u v m ∧ ∀ H', Same H H' → Q (.bl (tieB u v m n)) H'
def spNeed (K : PySem.W.Frag) : Sp := fun vs H Q _ => ∃ n a xs ps, vs = [.int n, .ref a] ∧ 0 ≤ n ∧ n ≤ 60 ∧ SqS K H a xs ∧ Trs K H xs ps ∧ (∀ p ∈ ps, tieB p.1 p.2.1 p.2.2 n = true) ∧ ∀ H', Same H H' → Q .non H'
theorem scPr : FnScope ["thing", "size"] ["thing", "size"] (defScope sPair) := ⟨rfl, rfl, rfl, by decide +kernel, rfl, by decide +kernel, by decide +kernel⟩
theorem scTi : FnScope ["thing", "size"] ["thing", "size"] (defScope sTie) := ⟨rfl, rfl, rfl, by decide +kernel, rfl, by decide +kernel, by decide +kernel⟩
theorem scNe : FnScope ["size", "ties", "at", "tie"] ["size", "ties"] (defScope sNeed) := ⟨rfl, rfl, rfl, by decide +kernel, rfl, by decide +kernel, by decide +kernel⟩
theorem kit_tup {K : PySem.W.Frag} : PySem.W.kitOne K (.type "tuple") (.type "tuple") = some true := kit_ty (r := true) (by decide +kernel)
section
variable {P : Program} {w : World} {K : PySem.W.Frag} {mg : Str → Option Value} {base : Heap}
theorem ok_pair {f fw : Addr} {fd fdw : FuncData} {k : Nat} (F : Fun K "_is_pair" "_is_pair" sPair f fd) (GP : FnOk P w K mg base CX0 k fw fdw ["thing", "size"] (spPlace K)) (gP : mg "is_place" = some (.ref fw)) (kP : PySem.W.keepIn K (.ref fw) = true)
    (bP : Binds K fdw ["thing", "size"] []) (mi : mg "isinstance" = none) (mt : mg "tuple" = none) (ml : mg "len" = none) : FnOk P w K mg base CX0 (k + 1) f fd ["thing", "size"] (spPair K) := by
  refine F.ok scPr (fun vs H Q E h => ?_) (fun cdv A outer s H vs Q E hr h => ?_)
  · obtain ⟨x, t, n, b, rfl, _⟩ := h
    rfl
  · obtain ⟨x, t, n, b, rfl, ty, hb, q⟩ := h
    refine ⟨_, pss_cons (ps_if (PW.pt (pw_or (pt_not (pt_val (pe_callB call_isi (by rfl) mi (by decide +kernel) (pa_cons (pv 0) (pa_cons (pe_bltn (v := .ty "tuple") (u := .type "tuple") (by rfl) mt (by decide +kernel) rfl) pa_nil)))))
        (pw_or1 (pt_cmpR op_ne (pe_callB call_len_seq (by rfl) ml PySem.boot_len (pa_cons (pv 0) pa_nil)) pe_int (nomark _))))) (pss_one (ps_ret pe_bl)) pss_nil)
      (pss_one (ps_ret (pe_and (pe_call GP hr rfl gP kP bP .nil pass0 (pa_cons (pe_ix ix_tup (pv 0) pe_int (fun _ _ => rfl)) (pa_cons (pv 1) pa_nil)))
        (pe_and (pe_call GP hr rfl gP kP bP .nil pass0 (pa_cons (pe_ix ix_tup (pv 0) pe_int (fun _ _ => rfl)) (pa_cons (pv 1) pa_nil)))
          (pe_one (pe_cmpR op_ne (pe_ix ix_tup (pv 0) pe_int (fun _ _ => rfl)) (pe_ix ix_tup (pv 0) pe_int (fun _ _ => rfl)) (nomark _))))))), ?_⟩
    rcases hb with ⟨hk, rfl⟩ | ⟨hk, a, xs, rfl, hS, hb⟩
    · exact ⟨x, rfl, x, _, _, _, _, rfl, .ty "tuple", ty, hk, false, rfl, q⟩
    · refine ⟨_, rfl, _, _, _, _, _, rfl, .ty "tuple", ty, hk, true, rfl, ?_⟩
      refine ⟨_, rfl, a, xs, rfl, .inr hS, rfl, _, rfl, ?_⟩
      rcases hb with ⟨hl, rfl⟩ | ⟨y, z, tyy, tz, rfl, ay, az, rfl⟩
      · have e : (!decide (V.int (xs.length : Int) = V.int 2)) = true := by
          simp only [Bool.not_eq_true', decide_eq_false_iff_not]
          intro z
          injection z with z
          exact hl (by omega)
        rw [e]
        exact q
      · have i0 : atI [y, z] 0 = some y := atI_nat (xs := [y, z]) (j := 0) rfl
        have i1 : atI [y, z] 1 = some z := atI_nat (xs := [y, z]) (j := 1) rfl
        have e : (!decide (V.int (([y, z] : List V).length : Int) = V.int 2)) = false := rfl
        rw [e]
        refine ⟨.ref a, rfl, a, _, 0, y, rfl, rfl, hS, i0, .int n, rfl, y, tyy, n, rfl, ay, fromToB y 0 (n - 1), rfl, ?_⟩
        unfold pairB at q
        cases h1 : fromToB y 0 (n - 1) with
        | false => rw [h1] at q; exact q
        | true =>
          rw [h1] at q
          refine ⟨.ref a, rfl, a, _, 1, z, rfl, rfl, hS, i1, .int n, rfl, z, tz, n, rfl, az, fromToB z 0 (n - 1), rfl, ?_⟩
          cases h2 : fromToB z 0 (n - 1) with
          | false => rw [h2] at q; exact q
          | true =>
            rw [h2] at q
            obtain ⟨i, rfl, _⟩ := fromTo_int h1
            obtain ⟨j, rfl, _⟩ := fromTo_int h2
            exact ⟨.ref a, rfl, a, _, 0, _, rfl, rfl, hS, i0, .ref a, rfl, a, _, 1, _, rfl, rfl, hS, i1, rfl, q⟩
theorem ok_tie {f fp ff : Addr} {fd fdp fdf : FuncData} {k : Nat} (F : Fun K "_is_tie" "_is_tie" sTie f fd) (GP : FnOk P w K mg base CX0 k fp fdp ["thing", "size"] (spPair K)) (gP : mg "_is_pair" = some (.ref fp)) (kP : PySem.W.keepIn K (.ref fp) = true)
    (bP : Binds K fdp ["thing", "size"] []) (GF : FnOk P w K mg base CX0 k ff fdf ["thing", "low", "high"] (spFromTo K)) (gF : mg "is_from_to" = some (.ref ff)) (kF : PySem.W.keepIn K (.ref ff) = true) (bF : Binds K fdf ["thing", "low", "high"] [])
    (mi : mg "isinstance" = none) (mt : mg "tuple" = none) (ml : mg "len" = none) (mm : ∃ t, mg "MOST_TIES" = some (.int 1000000000 t)) : FnOk P w K mg base CX0 (k + 1) f fd ["thing", "size"] (spTie K) := by
  obtain ⟨tm, mm⟩ := mm
  refine F.ok scTi (fun vs H Q E h => ?_) (fun cdv A outer s H vs Q E hr h => ?_)
  · obtain ⟨x, n, u, v, m, rfl, _⟩ := h
    rfl
  · obtain ⟨x, n, u, v, m, rfl, ⟨a, rfl, hS⟩, q⟩ := h
    refine ⟨_, pss_cons (ps_if (PW.pt (pw_or (pt_not (pt_val (pe_callB call_isi (by rfl) mi (by decide +kernel) (pa_cons (pv 0) (pa_cons (pe_bltn (v := .ty "tuple") (u := .type "tuple") (by rfl) mt (by decide +kernel) rfl) pa_nil)))))
        (pw_or1 (pt_cmpR op_ne (pe_callB call_len_seq (by rfl) ml PySem.boot_len (pa_cons (pv 0) pa_nil)) pe_int (nomark _))))) (pss_one (ps_ret pe_bl)) pss_nil)
      (pss_one (ps_ret (pe_and (pe_call GP hr rfl gP kP bP .nil pass0 (pa_cons (pe_slice sl_tupA (pv 0) po_none (po_some pe_int)) (pa_cons (pv 1) pa_nil)))
        (pe_one (pe_call GF hr rfl gF kF bF .nil pass0 (pa_cons (pe_ix ix_tup (pv 0) pe_int (fun _ _ => rfl)) (pa_cons pe_int (pa_cons (pe_glob (v := .int 1000000000) rfl mm ⟨_, rfl⟩) pa_nil)))))))), ?_⟩
    have i2 : atI [V.int u, V.int v, V.int m] 2 = some (.int m) := atI_nat (xs := [V.int u, V.int v, V.int m]) (j := 2) rfl
    refine ⟨_, rfl, _, _, _, _, _, rfl, .ty "tuple", Wk.SqT.tyX hS, kit_tup, true, rfl, ?_⟩
    refine ⟨_, rfl, a, _, rfl, .inr hS, rfl, _, rfl, ?_⟩
    refine ⟨.ref a, rfl, 2, rfl, a, _, rfl, hS, fun z => absurd z.2 (show ¬ (HT.sIx 3 3 (some 2) = 3) by decide), fun _ p hp => ?_⟩
    have sm : Same H (upd H p (.tup [.int u, .int v])) := same_upd hp
    refine ⟨.int n, rfl, .ref p, .type "tuple", n, pairB (.int u) (.int v) n, rfl, .base (.tup upd_same), .inr ⟨kit_tup, p, _, rfl, .inl (.inl upd_same), .inr ⟨.int u, .int v, _, _, rfl, any_int u, any_int v, rfl⟩⟩, _, rfl, ?_⟩
    unfold tieB at q
    cases h1 : pairB (.int u) (.int v) n with
    | false => rw [h1] at q; exact q _ sm
    | true =>
      rw [h1] at q
      exact ⟨.ref a, rfl, a, _, 2, _, rfl, rfl, hS.ext sm, i2, _, _, 0, 1000000000, rfl, any_int m, q _ sm⟩
theorem ok_need {f fp ff : Addr} {fd fdp fdf : FuncData} {k : Nat} (F : Fun K "_need_arguments" "_need_arguments" sNeed f fd) (GT : FnOk P w K mg base CX0 k fp fdp ["thing", "size"] (spTie K)) (gT : mg "_is_tie" = some (.ref fp)) (kT : PySem.W.keepIn K (.ref fp) = true)
    (bT : Binds K fdp ["thing", "size"] []) (GF : FnOk P w K mg base CX0 k ff fdf ["thing", "low", "high"] (spFromTo K)) (gF : mg "is_from_to" = some (.ref ff)) (kF : PySem.W.keepIn K (.ref ff) = true) (bF : Binds K fdf ["thing", "low", "high"] [])
    (mi : mg "isinstance" = none) (mt : mg "tuple" = none) (ml : mg "list" = none) (me : mg "enumerate" = none) (mm : ∃ t, mg "MOST_PLACES" = some (.int 60 t)) : FnOk P w K mg base CX0 (k + 1) f fd ["size", "ties"] (spNeed K) := by
  obtain ⟨tm, mm⟩ := mm
  refine F.ok scNe (fun vs H Q E h => ?_) (fun cdv A outer s H vs Q E hr h => ?_)
  · obtain ⟨n, a, xs, ps, rfl, _⟩ := h
    rfl
  · obtain ⟨n, a, xs, ps, rfl, n0, n1, hS, hT, hv, q⟩ := h
    refine ⟨_, pss_cons (ps_if (pt_not (pt_val (pe_call GF hr rfl gF kF bF .nil pass0 (pa_cons (pv 0) (pa_cons pe_int (pa_cons (pe_glob (v := .int 60) rfl mm ⟨_, rfl⟩) pa_nil)))))) (pss_one ps_never) pss_nil)
      (pss_cons (ps_if (pt_not (pt_val (pe_callB call_isiT (by rfl) mi (by decide +kernel) (pa_cons (pv 1) (pa_cons (pe_tup (pa_cons (pe_bltn (v := .ty "list") (u := .type "list") (by rfl) ml (by decide +kernel) rfl)
          (pa_cons (pe_bltn (v := .ty "tuple") (u := .type "tuple") (by rfl) mt (by decide +kernel) rfl) pa_nil))) pa_nil))))) (pss_one ps_never) pss_nil)
      (pss_one (ps_for PassesOwn.never rfl (pi_enumW (by rfl) me (fun σ H Q Q' h z => by obtain ⟨v, e, q⟩ := z; exact ⟨v, e, h _ _ q⟩) (pa_cons (pv 1) pa_nil)) (pg_tup rfl (pgs_cons (pg_name (i := 2) scNe.nd rfl (Or.inl rfl)) (pgs_cons (pg_name (i := 3) scNe.nd rfl (Or.inl rfl)) pgs_nil)))
        (pss_one (ps_if (pt_not (pt_val (pe_call GT hr rfl gT kT bT .nil pass0 (pa_cons (pv 3) (pa_cons (pv 0) pa_nil))))) (pss_one ps_never) pss_nil))))), ?_⟩
    have e1 : fromToB (.int n) 0 60 = true := by simp only [fromToB, Bool.and_eq_true, decide_eq_true_eq]; omega
    refine ⟨.int n, rfl, .int n, .type "int", 0, 60, rfl, any_int n, fromToB (.int n) 0 60, rfl, ?_⟩
    rw [e1]
    refine ⟨.ref a, rfl, (by show 2 ≤ sizeLine; decide), fun T nT => ?_⟩
    have sm : Same H (upd H T (.tup [.ty "list", .ty "tuple"])) := same_upd nT
    have hkind : ∃ t, TyX K (upd H T (.tup [.ty "list", .ty "tuple"])) (.ref a) t ∧ PySem.W.kitAny K t [.type "list", .type "tuple"] = some true := by
      rcases hS.ext sm with h | h
      · exact ⟨_, Wk.SqL.tyX h, kitAny_cons (b := true) (kit_ty (r := true) (by decide +kernel)) (fun z => by cases z) (fun _ => rfl)⟩
      · exact ⟨_, Wk.SqT.tyX h, kitAny_cons (b := false) (kit_ty (r := false) (by decide +kernel)) (fun _ => kitAny_cons (b := true) (kit_ty (r := true) (by decide +kernel)) (fun z => by cases z) (fun _ => rfl)) (fun z => by cases z)⟩
    obtain ⟨t, ty, hk⟩ := hkind
    refine ⟨_, T, _, t, _, true, rfl, upd_same, .cons (.ty "list") (.cons (.ty "tuple") .nil), ty, hk, true, rfl, ?_⟩
    refine ⟨.ref a, rfl, a, xs, rfl, hS.ext sm, fun J G W hG => ?_⟩
    refine for_it W (fun i σ H2 => (∃ v2 v3, σ = [some (.int n), some (.ref a), v2, v3]) ∧ Same (upd H T (.tup [.ty "list", .ty "tuple"])) H2) ⟨⟨_, _, rfl⟩, Same.refl _⟩ (fun i σ H2 _ p => hG H2 fun o z => p.2 _ _ z) ?_ ?_
    · rintro i x σ H2 H3 hi ⟨⟨v2, v3, rfl⟩, s2⟩ ⟨T2, x', y, rfl, nT2, rfl, hx, hy⟩
      obtain rfl : V.int (i : Int) = x' := Option.some.inj hx
      have s3 : Same (upd H T (.tup [.ty "list", .ty "tuple"])) (upd H2 T2 (.tup [.int (i : Int), y])) := s2.trans (same_upd nT2)
      obtain ⟨p, hp, htr⟩ := hT.get hy
      refine ⟨T2, _, rfl, .inl (.inl upd_same), rfl, ?_⟩
      refine ⟨_, _, rfl, _, _, rfl, ?_⟩
      refine ⟨rfl, y, rfl, .int n, rfl, y, n, _, _, _, rfl, htr.same (sm.trans s3), fun H4 s4 => ?_⟩
      rw [hv p (List.mem_of_getElem? hp)]
      exact ⟨true, rfl, ⟨_, _, rfl⟩, s3.trans s4⟩
    · rintro σ H2 ⟨⟨v2, v3, rfl⟩, s2⟩
      exact q H2 (sm.trans s2)
end
end T22
/-! The mathematics of bundles: triples (u, v, n) of two places and a number. -/
namespace T22
open PySem
abbrev T3 := Int × Int × Int
/-- the numbers at one pair, added up -/
def amt (l : List T3) (u v : Int) : Int := (l.map fun p => if p.1 = u ∧ p.2.1 = v then p.2.2 else 0).sum
theorem amt_nil {u v : Int} : amt [] u v = 0 := rfl
theorem amt_cons {p : T3} {l : List T3} {u v : Int} : amt (p :: l) u v = (if p.1 = u ∧ p.2.1 = v then p.2.2 else 0) + amt l u v := by simp [amt]
theorem amt_append {l m : List T3} {u v : Int} : amt (l ++ m) u v = amt l u v + amt m u v := by simp [amt]
theorem sum_perm {l m : List Int} (h : l.Perm m) : l.sum = m.sum := by
  induction h with
  | nil => rfl
  | cons x _ ih => simp [ih]
  | swap x y l => simp only [List.sum_cons]; omega
  | trans _ _ h1 h2 => exact h1.trans h2
theorem amt_perm {l m : List T3} (h : l.Perm m) {u v : Int} : amt l u v = amt m u v := sum_perm (h.map _)
theorem amt_zero {l : List T3} {u v : Int} (h : ∀ p ∈ l, ¬ (p.1 = u ∧ p.2.1 = v)) : amt l u v = 0 := by
  induction l with
  | nil => rfl
  | cons p l ih => rw [amt_cons, if_neg (h p List.mem_cons_self), ih fun q hq => h q (List.mem_cons_of_mem _ hq)]; rfl
theorem amt_nonneg {l : List T3} {u v : Int} (h : ∀ p ∈ l, 0 ≤ p.2.2) : 0 ≤ amt l u v := by
  induction l with
  | nil => exact Int.le_refl _
  | cons p l ih =>
    rw [amt_cons]
    have h1 := h p List.mem_cons_self
    have h2 := ih fun q hq => h q (List.mem_cons_of_mem _ hq)
    split <;> omega
/-- the lesser place first (as min and max tell them) -/
def norm (p : T3) : T3 := (if p.2.1 < p.1 then p.2.1 else p.1, if p.2.1 > p.1 then p.2.1 else p.1, p.2.2)
/-- ascending by the two places -/
def lt2 (p q : T3) : Prop := p.1 < q.1 ∨ (p.1 = q.1 ∧ p.2.1 < q.2.1)
def key (p q : T3) : Prop := p.1 = q.1 ∧ p.2.1 = q.2.1
theorem lt2.trans {p q r : T3} (a : lt2 p q) (b : lt2 q r) : lt2 p r := by unfold lt2 at *; omega
theorem lt2_irrefl {p q : T3} (h : lt2 p q) (k : key p q) : False := by unfold lt2 key at *; omega
/-- bundles of n places with these numbers of ties: ascending, none empty -/
structure TiesOf (n : Int) (am : Int → Int → Int) (T : List T3) : Prop where
  asc : T.Pairwise lt2
  mem : ∀ p ∈ T, 0 ≤ p.1 ∧ p.1 < p.2.1 ∧ p.2.1 < n ∧ 0 < p.2.2
  am : ∀ u v, amt T u v = am u v
theorem amt_mem {T : List T3} (h : T.Pairwise lt2) {p : T3} (hp : p ∈ T) : amt T p.1 p.2.1 = p.2.2 := by
  induction T with
  | nil => cases hp
  | cons q T ih =>
    obtain ⟨h1, h2⟩ := List.pairwise_cons.mp h
    rw [amt_cons]
    rcases List.mem_cons.mp hp with rfl | hp
    · rw [if_pos ⟨rfl, rfl⟩, amt_zero fun r hr k => lt2_irrefl (h1 r hr) ⟨k.1.symm, k.2.symm⟩]
      omega
    · rw [if_neg (show ¬ (q.1 = p.1 ∧ q.2.1 = p.2.1) from fun k => lt2_irrefl (h1 p hp) k), ih h2 hp]
      omega
theorem mem_amt {T : List T3} {u v : Int} (h : amt T u v ≠ 0) : ∃ p ∈ T, p.1 = u ∧ p.2.1 = v := by
  refine Classical.byContradiction fun c => h (amt_zero fun p hp k => c ⟨p, hp, k⟩)
theorem asc_ext : ∀ {T S : List T3}, T.Pairwise lt2 → S.Pairwise lt2 → (∀ p, p ∈ T ↔ p ∈ S) → T = S
  | [], [], _, _, _ => rfl
  | [], q :: S, _, _, h => by have := (h q).mpr List.mem_cons_self; cases this
  | p :: T, [], _, _, h => by have := (h p).mp List.mem_cons_self; cases this
  | p :: T, q :: S, hT, hS, h => by
    obtain ⟨t1, t2⟩ := List.pairwise_cons.mp hT
    obtain ⟨s1, s2⟩ := List.pairwise_cons.mp hS
    have e : p = q := by
      rcases List.mem_cons.mp ((h p).mp List.mem_cons_self) with e | m
      · exact e
      · rcases List.mem_cons.mp ((h q).mpr List.mem_cons_self) with e | m'
        · exact e.symm
        · exact (lt2_irrefl ((s1 p m).trans (t1 q m')) ⟨rfl, rfl⟩).elim
    subst e
    refine congrArg (p :: ·) (asc_ext t2 s2 fun r => ⟨fun m => ?_, fun m => ?_⟩)
    · rcases List.mem_cons.mp ((h r).mp (List.mem_cons_of_mem _ m)) with e | m'
      · subst e; exact (lt2_irrefl (t1 r m) ⟨rfl, rfl⟩).elim
      · exact m'
    · rcases List.mem_cons.mp ((h r).mpr (List.mem_cons_of_mem _ m)) with e | m'
      · subst e; exact (lt2_irrefl (s1 r m) ⟨rfl, rfl⟩).elim
      · exact m'
/-- there is just one such list -/
theorem TiesOf.eq {n n' : Int} {am am' : Int → Int → Int} {T S : List T3} (a : TiesOf n am T) (b : TiesOf n' am' S) (h : ∀ u v, am u v = am' u v) : T = S := by
  have half : ∀ {n n' : Int} {am am' : Int → Int → Int} {T S : List T3}, TiesOf n am T → TiesOf n' am' S → (∀ u v, am u v = am' u v) → ∀ p ∈ T, p ∈ S := fun {n n' am am' T S} a b h p hp => by
    have h1 := amt_mem a.asc hp
    have h2 : amt S p.1 p.2.1 = p.2.2 := by rw [b.am, ← h, ← a.am, h1]
    obtain ⟨q, hq, k1, k2⟩ := mem_amt (T := S) (u := p.1) (v := p.2.1) (by have := (a.mem p hp).2.2.2; omega)
    have h3 := amt_mem b.asc hq
    rw [k1, k2, h2] at h3
    have : q = p := Prod.ext k1 (Prod.ext k2 h3.symm)
    exact this ▸ hq
  exact asc_ext a.asc b.asc fun p => ⟨half a b h p, half b a (fun u v => (h u v).symm) p⟩
/-- one more triple, the list upside down -/
def putR : List T3 → T3 → List T3
  | [], p => [p]
  | q :: r, p => if q.1 = p.1 ∧ q.2.1 = p.2.1 then (p.1, p.2.1, q.2.2 + p.2.2) :: r else p :: q :: r
theorem putR_same {q p : T3} {r : List T3} (h : q.1 = p.1 ∧ q.2.1 = p.2.1) : putR (q :: r) p = (p.1, p.2.1, q.2.2 + p.2.2) :: r := if_pos h
theorem putR_new {q p : T3} {r : List T3} (h : ¬ (q.1 = p.1 ∧ q.2.1 = p.2.1)) : putR (q :: r) p = p :: q :: r := if_neg h
structure BInv (n : Int) (acc done : List T3) : Prop where
  desc : acc.Pairwise fun p q => lt2 q p
  am : ∀ u v, amt acc u v = amt done u v
  mem : ∀ p ∈ acc, 0 ≤ p.1 ∧ p.1 < p.2.1 ∧ p.2.1 < n ∧ 0 ≤ p.2.2
  head : ∀ q ∈ acc, ∃ p ∈ done, key p q
theorem BInv.nil {n : Int} : BInv n [] [] := ⟨.nil, fun _ _ => rfl, fun p hp => (by cases hp), fun p hp => (by cases hp)⟩
theorem BInv.put {n : Int} {acc done : List T3} {p : T3} (b : BInv n acc done) (hp : 0 ≤ p.1 ∧ p.1 < p.2.1 ∧ p.2.1 < n ∧ 0 ≤ p.2.2) (hd : ∀ d ∈ done, lt2 d p ∨ key d p) : BInv n (putR acc p) (done ++ [p]) := by
  have am1 : ∀ u v, amt [p] u v = if p.1 = u ∧ p.2.1 = v then p.2.2 else 0 := fun u v => by rw [amt_cons, amt_nil]; omega
  match acc, b with
  | [], b =>
    refine ⟨List.pairwise_singleton .., fun u v => ?_, fun q hq => ?_, fun q hq => ⟨p, by simp, by cases List.mem_singleton.mp hq; exact ⟨rfl, rfl⟩⟩⟩
    · rw [amt_append, ← b.am]; show amt [p] u v = _; rw [amt_nil]; omega
    · cases List.mem_singleton.mp hq; exact hp
  | q :: r, b =>
    obtain ⟨d1, d2⟩ := List.pairwise_cons.mp b.desc
    by_cases hk : q.1 = p.1 ∧ q.2.1 = p.2.1
    · rw [putR_same hk]
      have hq := b.mem q List.mem_cons_self
      refine ⟨List.pairwise_cons.mpr ⟨fun x hx => ?_, d2⟩, fun u v => ?_, fun x hx => ?_, fun x hx => ?_⟩
      · have := d1 x hx
        unfold lt2 at *
        dsimp only at *
        omega
      · rw [amt_append, ← b.am, amt_cons, amt_cons, am1]
        dsimp only
        rw [hk.1, hk.2]
        split <;> omega
      · rcases List.mem_cons.mp hx with rfl | hx
        · exact ⟨hp.1, hp.2.1, hp.2.2.1, by dsimp only; omega⟩
        · exact b.mem x (List.mem_cons_of_mem _ hx)
      · rcases List.mem_cons.mp hx with rfl | hx
        · exact ⟨p, by simp, rfl, rfl⟩
        · obtain ⟨y, hy, k⟩ := b.head x (List.mem_cons_of_mem _ hx)
          exact ⟨y, by simp [hy], k⟩
    · rw [putR_new hk]
      have ql : lt2 q p := by
        obtain ⟨y, hy, k⟩ := b.head q List.mem_cons_self
        have := hd y hy
        unfold lt2 key at *
        omega
      refine ⟨List.pairwise_cons.mpr ⟨fun x hx => ?_, b.desc⟩, fun u v => ?_, fun x hx => ?_, fun x hx => ?_⟩
      · rcases List.mem_cons.mp hx with rfl | hx
        · exact ql
        · exact (d1 x hx).trans ql
      · rw [amt_append, ← b.am, amt_cons (p := p), am1]
        omega
      · rcases List.mem_cons.mp hx with rfl | hx
        · exact hp
        · exact b.mem x hx
      · rcases List.mem_cons.mp hx with rfl | hx
        · exact ⟨x, by simp, rfl, rfl⟩
        · obtain ⟨y, hy, k⟩ := b.head x hx
          exact ⟨y, by simp [hy], k⟩
theorem amt_pos {l : List T3} {u v : Int} (h : ∀ p ∈ l, 0 ≤ p.2.2) : amt (l.filter fun p => decide (0 < p.2.2)) u v = amt l u v := by
  induction l with
  | nil => rfl
  | cons p l ih =>
    have ih := ih fun q hq => h q (List.mem_cons_of_mem _ hq)
    have h0 := h p List.mem_cons_self
    by_cases hp : 0 < p.2.2
    · rw [List.filter_cons_of_pos (by simpa using hp), amt_cons, amt_cons, ih]
    · rw [List.filter_cons_of_neg (by simpa using hp), amt_cons, ih]
      split <;> omega
theorem BInv.done {n : Int} {acc done : List T3} (b : BInv n acc done) : TiesOf n (amt done) (acc.reverse.filter fun p => decide (0 < p.2.2)) := by
  refine ⟨List.Pairwise.filter _ (List.pairwise_reverse.mpr b.desc), fun p hp => ?_, fun u v => ?_⟩
  · obtain ⟨h1, h2⟩ := List.mem_filter.mp hp
    have := b.mem p (List.mem_reverse.mp h1)
    exact ⟨this.1, this.2.1, this.2.2.1, by simpa using h2⟩
  · rw [amt_pos fun p hp => (b.mem p (List.mem_reverse.mp hp)).2.2.2, amt_perm (List.reverse_perm acc), b.am]
/-- the order of the code is that of the places -/
theorem le2_of_code {B : Int} {p q : T3} (hp : TS.Bd B [p.1, p.2.1, p.2.2]) (hq : TS.Bd B [q.1, q.2.1, q.2.2]) (h : TS.code B [p.1, p.2.1, p.2.2] ≤ TS.code B [q.1, q.2.1, q.2.2]) : lt2 p q ∨ key p q := by
  by_cases h1 : q.1 < p.1
  · have := TS.code_lt (B := B) (r := [q.2.1, q.2.2]) (q := [p.2.1, p.2.2]) rfl hq.tail hp.tail h1
    omega
  · by_cases h2 : p.1 = q.1
    · by_cases h3 : q.2.1 < p.2.1
      · have a := TS.code_lt (B := B) (r := [q.2.2]) (q := [p.2.2]) rfl hq.tail.tail hp.tail.tail h3
        have b := (TS.code_same (B := B) (d := p.1) (r := [q.2.1, q.2.2]) (q := [p.2.1, p.2.2]) rfl).mpr a
        rw [h2] at b h
        omega
      · unfold lt2 key; omega
    · unfold lt2 key; omega
end T22
/-! The bundles of items of ties. -/
namespace T22
open PySem PySem.Spec PyProof.Rows L2 Wk
abbrev sBundles : Stmt := top 20
abbrev sBounds : Stmt := top 21
def spBounds (K : PySem.W.Frag) : Sp := fun vs H Q _ => ∃ D bs T, vs = [.ref D] ∧ H D = some (.lst bs) ∧ bs.length ≤ sizeLine ∧ Trs K H bs T ∧ (∀ p ∈ T, p.2.2 ≤ 1000000000) ∧ ∀ H', Same H H' → Q .non H'
def spBundles (K : PySem.W.Frag) : Sp := fun vs H Q _ => ∃ n a xs ps, vs = [.ref a] ∧ n ≤ 60 ∧ SqS K H a xs ∧ Trs K H xs ps ∧ ps.length < 64 ∧ (∀ p ∈ ps, tieB p.1 p.2.1 p.2.2 n = true) ∧ (∀ u v, amt (ps.map norm) u v ≤ 1000000000) ∧
  ∀ H' t ys T, Same H H' → H t = none → H' t = some (.tup ys) → Trs K H' ys T → TiesOf n (amt (ps.map norm)) T → ys.length < 64 → Q (.ref t) H'
theorem scBo : FnScope ["bundles", "bundle"] ["bundles"] (defScope sBounds) := ⟨rfl, rfl, rfl, by decide +kernel, rfl, by decide +kernel, by decide +kernel⟩
theorem scBu : FnScope ["ties", "bundles", "u", "v", "number", "goes_on", "ahead", "bundle"] ["ties"] (defScope sBundles) := ⟨rfl, rfl, rfl, by decide +kernel, rfl, by decide +kernel, by decide +kernel⟩
theorem Trs.append {K : PySem.W.Frag} {H : Hp} : ∀ {xs ys : List V} {ps qs : List T3}, Trs K H xs ps → Trs K H ys qs → Trs K H (xs ++ ys) (ps ++ qs)
  | [], _, [], _, _, h => h
  | _ :: _, _, _ :: _, _, g, h => ⟨g.1, Trs.append g.2 h⟩
  | [], _, _ :: _, _, g, _ => g.elim
  | _ :: _, _, [], _, g, _ => g.elim
theorem Trs.take {K : PySem.W.Frag} {H : Hp} : ∀ {xs : List V} {ps : List T3} (i : Nat), Trs K H xs ps → Trs K H (xs.take i) (ps.take i)
  | _, _, 0, _ => True.intro
  | _ :: _, _ :: _, i + 1, h => ⟨h.1, Trs.take i h.2⟩
  | [], [], _ + 1, _ => True.intro
  | [], _ :: _, _ + 1, h => h.elim
  | _ :: _, [], _ + 1, h => h.elim
theorem Trs.reverse {K : PySem.W.Frag} {H : Hp} : ∀ {xs : List V} {ps : List T3}, Trs K H xs ps → Trs K H xs.reverse ps.reverse
  | [], [], _ => True.intro
  | _ :: _, _ :: _, h => by
    rw [List.reverse_cons, List.reverse_cons]
    exact Trs.append (Trs.reverse h.2) ⟨h.1, True.intro⟩
  | [], _ :: _, h => h.elim
  | _ :: _, [], h => h.elim
theorem Trs.perm {K : PySem.W.Frag} {H : Hp} {xs ys : List V} (h : ys.Perm xs) : ∀ {ps : List T3}, Trs K H xs ps → ∃ qs, qs.Perm ps ∧ Trs K H ys qs := by
  induction h with
  | nil => exact fun {ps} t => ⟨ps, .refl _, t⟩
  | @cons x l1 l2 _ ih =>
    intro ps t
    cases ps with
    | nil => exact t.elim
    | cons p ps =>
      obtain ⟨qs, h1, h2⟩ := ih t.2
      exact ⟨p :: qs, h1.cons p, t.1, h2⟩
  | swap x y l =>
    intro ps t
    cases ps with
    | nil => exact t.elim
    | cons p ps =>
      cases ps with
      | nil => exact t.2.elim
      | cons r ps => exact ⟨r :: p :: ps, .swap p r ps, t.2.1, t.1, t.2.2⟩
  | trans _ _ h1 h2 =>
    intro ps t
    obtain ⟨qs, a1, a2⟩ := h2 t
    obtain ⟨rs, b1, b2⟩ := h1 a2
    exact ⟨rs, b1.trans a1, b2⟩
theorem Tr.tupI {K : PySem.W.Frag} {H : Hp} {x : V} {u v m : Int} (h : Tr K H x u v m) : TupI K H x [u, v, m] := h
theorem Trs.order {K : PySem.W.Frag} {H : Hp} {B : Int} : ∀ {xs : List V} {ps : List T3}, Trs K H xs ps → (∀ p ∈ ps, TS.Bd B [p.1, p.2.1, p.2.2]) → xs.Pairwise (fun x y => ∀ n m, TupI K H x n → TupI K H y m → TS.code B n ≤ TS.code B m) →
    ps.Pairwise fun p q => lt2 p q ∨ key p q
  | [], [], _, _, _ => .nil
  | x :: xs, p :: ps, h, hb, hp => by
    obtain ⟨p1, p2⟩ := List.pairwise_cons.mp hp
    refine List.pairwise_cons.mpr ⟨fun q hq => ?_, Trs.order h.2 (fun q hq => hb q (List.mem_cons_of_mem _ hq)) p2⟩
    obtain ⟨i, hi, e⟩ := List.mem_iff_getElem.mp hq
    have hlt : i < xs.length := by rw [Trs.length h.2]; exact hi
    obtain ⟨q', e', tq⟩ := Trs.get h.2 (List.getElem?_eq_getElem hlt)
    rw [List.getElem?_eq_getElem hi, e] at e'
    cases e'
    exact le2_of_code (hb p List.mem_cons_self) (hb q (List.mem_cons_of_mem _ hq)) (p1 _ (List.getElem_mem hlt) _ _ h.1.tupI tq.tupI)
  | [], _ :: _, h, _, _ => h.elim
  | _ :: _, [], h, _, _ => h.elim
theorem SqT.but {K : PySem.W.Frag} {H H' : Hp} {D t : Addr} {bs xs : List V} (hD : H D = some (.lst bs)) (h : SqT K H t xs) (b : But D H H') : SqT K H' t xs := by
  rcases h with (h | ⟨o, h⟩) | h
  · exact .inl (.inl (b t _ (fun e => by rw [e, hD] at h; cases h) h))
  · exact .inl (.inr ⟨o, b t _ (fun e => by rw [e, hD] at h; cases h) h⟩)
  · exact .inr h
theorem Trs.but {K : PySem.W.Frag} {H H' : Hp} {D : Addr} {bs : List V} (hD : H D = some (.lst bs)) (b : But D H H') : ∀ {xs : List V} {ps : List T3}, Trs K H xs ps → Trs K H' xs ps
  | [], [], _ => True.intro
  | _ :: _, _ :: _, h => ⟨let ⟨t, e, q⟩ := h.1; ⟨t, e, SqT.but hD q b⟩, Trs.but hD b h.2⟩
  | [], _ :: _, h => h.elim
  | _ :: _, [], h => h.elim
theorem norm_ok {n : Int} {p : T3} (h : tieB p.1 p.2.1 p.2.2 n = true) : 0 ≤ (norm p).1 ∧ (norm p).1 < (norm p).2.1 ∧ (norm p).2.1 < n ∧ 0 ≤ (norm p).2.2 ∧ (norm p).2.2 ≤ 1000000000 := by
  obtain ⟨h1, h2, h3, h4, h5, h6, h7⟩ := tieB_iff.mp h
  unfold norm
  dsimp only
  split <;> split <;> omega
section
variable {P : Program} {w : World} {K : PySem.W.Frag} {mg : Str → Option Value} {base : Heap}
theorem ok_bounds {f : Addr} {fd : FuncData} {k : Nat} (F : Fun K "_need_bounds" "_need_bounds" sBounds f fd) (ma : mg "any" = none) (mm : ∃ t, mg "MOST_TIES" = some (.int 1000000000 t)) : FnOk P w K mg base CX0 (k + 1) f fd ["bundles"] (spBounds K) := by
  obtain ⟨tm, mm⟩ := mm
  refine F.ok scBo (fun vs H Q E h => ?_) (fun cdv A outer s H vs Q E hr h => ?_)
  · obtain ⟨D, bs, T, rfl, _⟩ := h
    rfl
  · obtain ⟨a, bs, T, rfl, ha, hlen, hT, hv, q⟩ := h
    refine ⟨_, pss_one (ps_if (pt_val (pe_callB (cr_any rfl) (by rfl) ma (by decide +kernel) (pa_cons
      (pe_lc (own := [("bundle", 1)]) (g := gName 1) (tt := tYes) rfl scBo.nd (pi_list (pv 0)) (blkOk_by (N := ["bundles", "bundle"]) (sc := defScope sBounds) (by decide +kernel))
        (fun _ _ _ _ _ => pg_name (i := 1) scBo.nd rfl (Or.inl rfl)) (fun _ _ _ _ _ => pts_nil) (fun _ _ _ _ _ => pe_cmpR op_gt (pe_ix (r := rIxT K) ix_tup (pv 1) pe_int (fun _ _ => rfl)) (pe_glob (v := .int 1000000000) rfl mm ⟨_, rfl⟩) (nomark _))) pa_nil))) (pss_one ps_never) pss_nil), ?_⟩
    refine ⟨.ref a, rfl, a, rfl, ⟨bs, .inl (.inl ha)⟩, fun D nD => ?_⟩
    have haD : a ≠ D := ne_of_none ha nD
    refine lc_list (K := K) (a := a) (xs := bs) (fun i H2 => Ext H H2 ∧ H2 D = some (.lst ((List.replicate i false).map V.bl))) ?_ (fun i H2 _ h2 => .inl (.inl (h2.1 _ _ ha))) ?_ ?_
    · exact ⟨fun b o z => by rw [upd_ne (ne_of_none z nD)]; exact z, upd_same⟩
    · rintro i x H2 hx ⟨g1, g2⟩
      obtain ⟨p, hp, t, rfl, hS⟩ := hT.get hx
      have i2 : atI [V.int p.1, V.int p.2.1, V.int p.2.2] 2 = some (.int p.2.2) := atI_nat (xs := [V.int p.1, V.int p.2.1, V.int p.2.2]) (j := 2) rfl
      have le := hv p (List.mem_of_getElem? hp)
      refine ⟨rfl, .ref t, rfl, t, _, 2, _, rfl, rfl, hS.ext g1, i2, p.2.2, 1000000000, rfl, rfl, _, g2, ?_, ?_, ?_⟩
      · rw [List.length_map, List.length_replicate]
        exact Nat.lt_of_lt_of_le (List.getElem?_eq_some_iff.mp hx).1 hlen
      · intro b o z
        rw [upd_ne (ne_of_none z nD)]
        exact g1 b o z
      · have e : decide ((1000000000 : Int) < p.2.2) = false := decide_eq_false (by omega)
        rw [upd_same, List.replicate_succ', List.map_append]
        show some (HO.lst (_ ++ [V.bl (decide ((1000000000 : Int) < p.2.2))])) = _
        rw [e]
        rfl
    · rintro H2 ⟨g1, g2⟩
      refine ⟨D, _, rfl, .inl (.inl g2), _, rfl, ?_⟩
      have e : (List.replicate bs.length false).any id = false := by rw [List.any_replicate]; split <;> rfl
      rw [e]
      exact q H2 g1
end
end T22
namespace T22
open PySem PySem.Spec PyProof.Rows L2 Wk
theorem eqv2 (a b c d : Int) : PyData.eqv (.tuple [.int a, .int b]) (.tuple [.int c, .int d]) = (decide (a = c) && decide (b = d)) := by
  have e : PyData.eqv (.tuple [.int a, .int b]) (.tuple [.int c, .int d]) = ((a == c) && ((b == d) && true)) := by
    first | rfl | kernel_rfl | (rw [PyData.eqv, PyData.eqvAll, PyData.eqvAll, PyData.eqvAll, PyData.eqv, PyData.eqv])
  rw [e, Bool.and_true]
  rfl
section
variable {P : Program} {w : World} {K : PySem.W.Frag} {mg : Str → Option Value} {base : Heap}
theorem ok_bundles {f fb : Addr} {fd fdb : FuncData} {k : Nat} (F : Fun K "_bundles" "_bundles" sBundles f fd) (GB : FnOk P w K mg base CX0 k fb fdb ["bundles"] (spBounds K)) (gB : mg "_need_bounds" = some (.ref fb)) (kB : PySem.W.keepIn K (.ref fb) = true) (bB : Binds K fdb ["bundles"] [])
    (ms : mg "sorted" = none) (mi : mg "min" = none) (mx : mg "max" = none) (mt : mg "tuple" = none) : FnOk P w K mg base CX0 (k + 1) f fd ["ties"] (spBundles K) := by
  refine F.ok scBu (fun vs H Q E h => ?_) (fun cdv A outer s H vs Q E hr h => ?_)
  · obtain ⟨n, a, xs, ps, rfl, _⟩ := h
    rfl
  · obtain ⟨n, a, xs, ps, rfl, hn, hS, hT, h64, hv, ham, q⟩ := h
    have hu := hu_of hr
    refine ⟨_, pss_cons (ps_set (i := 1) scBu.nd rfl (Or.inl rfl) (pe_lst pa_nil))
      (pss_cons (ps_for PassesOwn.never rfl (pi_list (pe_callB (cr_sortT (d := 3) (B := 1000000001) (by decide)) (by rfl) ms (by decide +kernel) (pa_cons
          (pe_lc (own := [("u", 2), ("v", 3), ("number", 4)]) (g := gTup K 3 (gCons (gName 2) (gCons (gName 3) (gCons (gName 4) gNil)))) (tt := tYes) rfl scBu.nd (pi_seqW (pv 0)) (blkOk_by (N := ["ties", "bundles", "u", "v", "number", "goes_on", "ahead", "bundle"]) (sc := defScope sBundles) (by decide +kernel))
            (fun _ _ _ _ _ => pg_tup rfl (pgs_cons (pg_name (i := 2) scBu.nd rfl (Or.inl rfl)) (pgs_cons (pg_name (i := 3) scBu.nd rfl (Or.inl rfl)) (pgs_cons (pg_name (i := 4) scBu.nd rfl (Or.inl rfl)) pgs_nil))))
            (fun _ _ _ _ _ => pts_nil) (fun _ _ _ _ _ => pe_tup (pa_cons (pe_callB (call_min2 rfl) (by rfl) mi (by decide +kernel) (pa_cons (pv 2) (pa_cons (pv 3) pa_nil)))
              (pa_cons (pe_callB (call_max2 rfl) (by rfl) mx (by decide +kernel) (pa_cons (pv 2) (pa_cons (pv 3) pa_nil))) (pa_cons (pv 4) pa_nil))))) pa_nil)))
          (pg_tup rfl (pgs_cons (pg_name (i := 2) scBu.nd rfl (Or.inl rfl)) (pgs_cons (pg_name (i := 3) scBu.nd rfl (Or.inl rfl)) (pgs_cons (pg_name (i := 4) scBu.nd rfl (Or.inl rfl)) pgs_nil))))
        (pss_cons (ps_set (i := 5) scBu.nd rfl (Or.inl rfl) (pe_andT (pv 1) (pe_one (pe_cmpR (op_eqD hr.units) (pe_slice sl_tupA (pe_ix ix_list (pv 1) (pe_un un_neg pe_int) (fun _ _ => rfl)) po_none (po_some pe_int)) (pe_tup (pa_cons (pv 2) (pa_cons (pv 3) pa_nil))) (nomark _)))))
        (pss_cons (ps_set (i := 6) scBu.nd rfl (Or.inl rfl) (pe_ifExp (pt_truth (pv 5) (by intro _; rfl)) (pe_ix ix_tup (pe_bm0 PySem.F.plainAttrs_list PySem.F.slot_list_pop PySem.F.type_list_pop mt_pop (pv 1)) pe_int (fun _ _ => rfl)) pe_int))
        (pss_one (ps_expr (pe_bm PySem.F.plainAttrs_list PySem.F.slot_list_append PySem.F.type_list_append mt_append (pv 1) (pa_cons (pe_tup (pa_cons (pv 2) (pa_cons (pv 3) (pa_cons (pe_op op_add (pv 6) (pv 4)) pa_nil)))) pa_nil)))))))
      (pss_cons (ps_expr (pe_call GB hr rfl gB kB bB .nil pass0 (pa_cons (pv 1) pa_nil)))
      (pss_one (ps_ret (pe_callTy call_tuple_of (by rfl) mt (by decide +kernel) (pa_cons
        (pe_lc (own := [("bundle", 7)]) (g := gName 7) rfl scBu.nd (pi_list (pv 1)) (blkOk_by (N := ["ties", "bundles", "u", "v", "number", "goes_on", "ahead", "bundle"]) (sc := defScope sBundles) (by decide +kernel))
          (fun _ _ _ _ _ => pg_name (i := 7) scBu.nd rfl (Or.inl rfl)) (fun _ _ _ _ _ => pts_one (pt_cmpR op_gt (pe_ix (r := rIxT K) ix_tup (pv 7) pe_int (fun _ _ => rfl)) pe_int (nomark _))) (fun _ _ _ _ _ => pv 7)) pa_nil)))))), ?_⟩
    refine ⟨(by show 0 ≤ sizeLine; decide), fun D nD => ?_⟩
    have e1 : Ext H (upd H D (.lst [])) := same_upd nD
    -- the normal items
    refine ⟨.ref a, rfl, a, xs, rfl, hS.ext e1, fun J G W hG L nL => ?_⟩
    have nL0 : H L = none := Same.free e1 nL
    have hDL : D ≠ L := ne_of_none upd_same nL
    have hlen : xs.length = ps.length := hT.length
    refine lc_it W (fun i H2 => Ext (upd H D (.lst [])) H2 ∧ ∃ ys, H2 L = some (.lst ys) ∧ Trs K H2 ys ((ps.take i).map norm)) ⟨fun b o z => by rw [upd_ne (ne_of_none z nL)]; exact z, [], upd_same, True.intro⟩ (fun i H2 _ p => hG H2 fun o z => p.1 _ _ z) ?_ ?_
    · rintro i x H2 H3 hi ⟨g1, ys, g2, g3⟩ ⟨rfl, hx⟩
      obtain ⟨p, hp, t, rfl, hSt⟩ := hT.get hx
      have hys : ys.length = ((ps.take i).map norm).length := g3.length
      have hsz : ys.length < sizeLine := by rw [hys, List.length_map, List.length_take, sizeLine_eq]; omega
      refine ⟨t, _, rfl, hSt.ext (Ext.trans e1 g1), rfl, _, _, rfl, _, _, rfl, _, _, rfl, rfl, rfl, ?_⟩
      refine ⟨_, rfl, _, rfl, p.1, p.2.1, rfl, _, rfl, _, rfl, p.1, p.2.1, rfl, _, rfl, (by show 3 ≤ sizeLine; decide), fun T nT => ⟨ys, by rw [upd_ne (ne_of_none g2 nT)]; exact g2, hsz, ?_⟩⟩
      have hTL : T ≠ L := Ne.symm (ne_of_none g2 nT)
      have s3 : Same H3 (upd H3 T (.tup [.int (if p.2.1 < p.1 then p.2.1 else p.1), .int (if p.2.1 > p.1 then p.2.1 else p.1), .int p.2.2])) := same_upd nT
      refine ⟨fun b o z => ?_, ys ++ [.ref T], upd_same, ?_⟩
      · rw [upd_ne (ne_of_none z nL)]
        exact s3 _ _ (g1 b o z)
      · rw [List.take_add_one, hp, List.map_append]
        have bt : But L (upd H3 T (.tup [.int (if p.2.1 < p.1 then p.2.1 else p.1), .int (if p.2.1 > p.1 then p.2.1 else p.1), .int p.2.2])) (upd (upd H3 T (.tup [.int (if p.2.1 < p.1 then p.2.1 else p.1), .int (if p.2.1 > p.1 then p.2.1 else p.1), .int p.2.2])) L (.lst (ys ++ [.ref T]))) := But.upd _ _ _
        refine Trs.append (Trs.but (D := L) (bs := ys) (by rw [upd_ne (Ne.symm hTL)]; exact g2) bt (g3.same s3)) ⟨⟨T, rfl, .inl (.inl (by rw [upd_ne hTL]; exact upd_same))⟩, True.intro⟩
    · rintro H2 ⟨g1, ys0, g2, g3⟩
      rw [hlen, List.take_length] at g3
      have hbd : ∀ p ∈ ps.map norm, TS.Bd 1000000001 [p.1, p.2.1, p.2.2] := fun p hp => by
        obtain ⟨p0, h0, rfl⟩ := List.mem_map.mp hp
        have := norm_ok (hv p0 h0)
        intro m hm
        simp only [List.mem_cons, List.not_mem_nil, or_false] at hm
        rcases hm with rfl | rfl | rfl <;> omega
      refine ⟨L, ys0, rfl, .inl (.inl g2), by rw [g3.length, List.length_map]; exact h64, fun x hx => ?_, fun ys p hperm hord np => ?_⟩
      · obtain ⟨i, hi, rfl⟩ := List.mem_iff_getElem.mp hx
        obtain ⟨p, hp, tr⟩ := g3.get (List.getElem?_eq_getElem hi)
        exact ⟨_, tr.tupI, rfl, hbd p (List.mem_of_getElem? hp)⟩
      obtain ⟨qs, hqp, hTq⟩ := g3.perm hperm
      have hord' := hTq.order (fun p hp => hbd p (hqp.mem_iff.mp hp)) hord
      have hqv : ∀ q ∈ qs, 0 ≤ q.1 ∧ q.1 < q.2.1 ∧ q.2.1 < n ∧ 0 ≤ q.2.2 := fun q hq => by
        obtain ⟨p0, h0, rfl⟩ := List.mem_map.mp (hqp.mem_iff.mp hq)
        have := norm_ok (hv p0 h0)
        omega
      have hD2 : H2 D = some (.lst []) := g1 _ _ upd_same
      have hpD : p ≠ D := Ne.symm (ne_of_none hD2 np)
      have hql : qs.length < 64 := by rw [hqp.length_eq, List.length_map]; exact h64
      have hyl : ys.length = qs.length := hTq.length
      refine ⟨p, rfl, ⟨ys, .inl (.inl upd_same)⟩, ?_⟩
      refine for_list (K := K) (a := p) (xs := ys) (fun i σ H3 => (∃ v2 v3 v4 v5 v6 v7, σ = [some (.ref a), some (.ref D), v2, v3, v4, v5, v6, v7]) ∧ But D (upd H2 p (.lst ys)) H3 ∧
        ∃ bs acc, H3 D = some (.lst bs.reverse) ∧ bs.length ≤ i ∧ Trs K H3 bs acc ∧ BInv n acc (qs.take i)) ?_ (fun i σ H3 _ h => .inl (.inl (h.2.1 p _ hpD upd_same))) ?_ ?_
      · exact ⟨⟨_, _, _, _, _, _, rfl⟩, But.refl _ _, [], [], by rw [upd_ne (Ne.symm hpD)]; exact hD2, Nat.le_refl _, True.intro, BInv.nil⟩
      · rintro i x σ H3 hx ⟨⟨v2, v3, v4, v5, v6, v7, rfl⟩, bt, bs, acc, k1, k2, k3, k4⟩
        have hDp : (upd H2 p (.lst ys)) D = some (.lst []) := by rw [upd_ne (Ne.symm hpD)]; exact hD2
        obtain ⟨q0, hq0, t, rfl, hSt⟩ := (Trs.but hDp bt (hTq.same (same_upd np))).get hx
        have hil : i < 64 := by have := (List.getElem?_eq_some_iff.mp hq0).1; omega
        have hmem := List.mem_of_getElem? hq0
        have htk : qs.take (i + 1) = qs.take i ++ [q0] := by rw [List.take_add_one, hq0]; rfl
        have hbe : ∀ d ∈ qs.take i, lt2 d q0 ∨ key d q0 := fun d hd => by
          obtain ⟨j, hj, rfl⟩ := List.mem_iff_getElem.mp hd
          rw [List.length_take] at hj
          have hi' := (List.getElem?_eq_some_iff.mp hq0).1
          have e0 : qs[i] = q0 := (List.getElem?_eq_some_iff.mp hq0).2
          have := List.pairwise_iff_getElem.mp hord' j i (by omega) hi' (by omega)
          rw [List.getElem_take]
          rwa [e0] at this
        -- the turn's end: the new bundle at R
        have fin : ∀ (ah : Int) (bs' : List V) (acc' : List T3) (H4 : Hp) (R : Addr), H4 D = some (.lst bs'.reverse) → bs'.length ≤ i → Trs K H4 bs' acc' → But D H3 H4 → putR acc q0 = (q0.1, q0.2.1, ah + q0.2.2) :: acc' → H4 R = none →
            ∃ l xs y, V.ref D = .ref l ∧ [V.ref R] = [y] ∧ (upd H4 R (.tup [.int q0.1, .int q0.2.1, .int (ah + q0.2.2)])) l = some (.lst xs) ∧ xs.length < sizeLine ∧
              (But D (upd H2 p (.lst ys)) (upd (upd H4 R (.tup [.int q0.1, .int q0.2.1, .int (ah + q0.2.2)])) l (.lst (xs ++ [y]))) ∧
                ∃ bs acc, (upd (upd H4 R (.tup [.int q0.1, .int q0.2.1, .int (ah + q0.2.2)])) l (.lst (xs ++ [y]))) D = some (.lst bs.reverse) ∧ bs.length ≤ i + 1 ∧ Trs K (upd (upd H4 R (.tup [.int q0.1, .int q0.2.1, .int (ah + q0.2.2)])) l (.lst (xs ++ [y]))) bs acc ∧ BInv n acc (qs.take (i + 1))) := by
          intro ah bs' acc' H4 R j1 j2 j3 j4 j5 nR
          have hRD : R ≠ D := Ne.symm (ne_of_none j1 nR)
          have j1' : (upd H4 R (.tup [.int q0.1, .int q0.2.1, .int (ah + q0.2.2)])) D = some (.lst bs'.reverse) := by rw [upd_ne (Ne.symm hRD)]; exact j1
          refine ⟨D, _, _, rfl, rfl, j1', by rw [List.length_reverse, sizeLine_eq]; omega, bt.trans (j4.trans ((But.of (same_upd nR)).trans (But.upd _ _ _))), .ref R :: bs', (q0.1, q0.2.1, ah + q0.2.2) :: acc', by rw [upd_same, List.reverse_cons], by rw [List.length_cons]; omega, ?_, ?_⟩
          · exact ⟨⟨R, rfl, .inl (.inl (by rw [upd_ne hRD]; exact upd_same))⟩, Trs.but j1' (But.upd _ _ _) (j3.same (same_upd nR))⟩
          · rw [htk, ← j5]
            exact k4.put (hqv q0 hmem) hbe
        refine ⟨t, _, rfl, hSt, rfl, _, _, rfl, _, _, rfl, _, _, rfl, rfl, ?_⟩
        cases bs with
        | nil =>
          cases acc with
          | cons _ _ => exact k3.elim
          | nil =>
            have em : TruV K (.ref D) H3 false := .inl ⟨[], .inl (.inl k1), rfl⟩
            refine ⟨.ref D, rfl, false, em, ?_⟩
            refine ⟨.ref D, rfl, false, em, ?_⟩
            refine ⟨.ref D, rfl, .inl ⟨rfl, _, .inl (.inl k1)⟩, _, rfl, _, rfl, _, rfl, _, rfl, 0, q0.2.2, rfl, rfl, (by show 3 ≤ sizeLine; decide), fun R nR => ?_⟩
            obtain ⟨l, xs1, y1, z1, z2, z3, z4, z5⟩ := fin 0 [] [] H3 R k1 (Nat.zero_le _) True.intro (But.refl _ _) (by rw [Int.zero_add]; rfl) nR
            exact ⟨l, xs1, y1, z1, z2, z3, z4, ⟨_, _, _, _, _, _, rfl⟩, z5⟩
        | cons b r =>
          cases acc with
          | nil => exact k3.elim
          | cons c ra =>
            have k1' := k1
            rw [List.reverse_cons] at k1'
            obtain ⟨⟨tb, rfl, hSb⟩, k3r⟩ := k3
            have tr : TruV K (.ref D) H3 true := .inl ⟨_, .inl (.inl k1'), by simp⟩
            refine ⟨.ref D, rfl, true, tr, ?_⟩
            refine ⟨.ref D, rfl, 1, rfl, D, _, -1, _, rfl, rfl, .inl (.inl k1'), atI_last _ _, 2, rfl, tb, _, rfl, hSb, fun z => absurd z.2 (show ¬ (HT.sIx 3 3 (some 2) = 3) by decide), fun _ S nS => ?_⟩
            have s1 : Same H3 (upd H3 S (.tup (cutV [V.int c.1, V.int c.2.1, V.int c.2.2] none (some 2)))) := same_upd nS
            refine ⟨_, rfl, _, rfl, (by show 2 ≤ sizeLine; decide), fun S2 nS2 => ?_⟩
            have s2 : Same (upd H3 S (.tup (cutV [V.int c.1, V.int c.2.1, V.int c.2.2] none (some 2)))) (upd (upd H3 S (.tup (cutV [V.int c.1, V.int c.2.1, V.int c.2.2] none (some 2)))) S2 (.tup [.int q0.1, .int q0.2.1])) := same_upd nS2
            refine ⟨.tuple [.int c.1, .int c.2.1], .tuple [.int q0.1, .int q0.2.1], .tup (.inl (.inl (s2 _ _ upd_same))) (.cons (.int _) (.cons (.int _) .nil)), .tup (.inl (.inl upd_same)) (.cons (.int _) (.cons (.int _) .nil)), rfl, rfl, ?_⟩
            rw [eqv2]
            have s12 := s1.trans s2
            generalize upd (upd H3 S (.tup (cutV [V.int c.1, V.int c.2.1, V.int c.2.2] none (some 2)))) S2 (.tup [.int q0.1, .int q0.2.1]) = H4 at s12 ⊢
            by_cases hk : c.1 = q0.1 ∧ c.2.1 = q0.2.1
            · rw [decide_eq_true hk.1, decide_eq_true hk.2]
              refine ⟨.bl true, rfl, true, rfl, ?_⟩
              have i2 : atI [V.int c.1, V.int c.2.1, V.int c.2.2] 2 = some (.int c.2.2) := atI_nat (xs := [V.int c.1, V.int c.2.1, V.int c.2.2]) (j := 2) rfl
              have k1'' := s12 _ _ k1'
              refine ⟨.ref D, rfl, .inl ⟨rfl, _, .inl (.inl k1'')⟩, D, _, .ref tb, rfl, rfl, k1'', by simp, tb, _, 2, _, rfl, rfl, SqT.but k1'' (hSb.ext s12) (But.upd _ _ _), i2, ?_⟩
              have dl : (r.reverse ++ [V.ref tb]).dropLast = r.reverse := List.dropLast_concat
              rw [dl]
              refine ⟨.ref D, rfl, .inl ⟨rfl, _, .inl (.inl upd_same)⟩, _, rfl, _, rfl, _, rfl, _, rfl, c.2.2, q0.2.2, rfl, rfl, (by show 3 ≤ sizeLine; decide), fun R nR => ?_⟩
              obtain ⟨l, xs1, y1, z1, z2, z3, z4, z5⟩ := fin c.2.2 r ra _ R upd_same (by rw [List.length_cons] at k2; omega) (Trs.but k1'' (But.upd _ _ _) (Trs.same s12 k3r)) ((But.of s12).trans (But.upd _ _ _)) (putR_same hk) nR
              exact ⟨l, xs1, y1, z1, z2, z3, z4, ⟨_, _, _, _, _, _, rfl⟩, z5⟩
            · have e : (decide (c.1 = q0.1) && decide (c.2.1 = q0.2.1)) = false := by simpa using hk
              rw [e]
              refine ⟨.bl false, rfl, false, rfl, ?_⟩
              refine ⟨.ref D, rfl, .inl ⟨rfl, _, .inl (.inl (s12 _ _ k1'))⟩, _, rfl, _, rfl, _, rfl, _, rfl, 0, q0.2.2, rfl, rfl, (by show 3 ≤ sizeLine; decide), fun R nR => ?_⟩
              obtain ⟨l, xs1, y1, z1, z2, z3, z4, z5⟩ := fin 0 (.ref tb :: r) (c :: ra) H4 R (s12 _ _ k1) k2 ⟨⟨tb, rfl, hSb.ext s12⟩, Trs.same s12 k3r⟩ (But.of s12) (by rw [Int.zero_add]; exact putR_new hk) nR
              exact ⟨l, xs1, y1, z1, z2, z3, z4, ⟨_, _, _, _, _, _, rfl⟩, z5⟩
      · rintro σ H3 ⟨⟨v2, v3, v4, v5, v6, v7, rfl⟩, bt, bs, acc, k1, k2, k3, k4⟩
        rw [hyl] at k2
        rw [hyl, List.take_length] at k4
        have e3 : Ext H H3 := fun b o z => bt b o (ne_of_none z nD) (by
          rw [upd_ne (ne_of_none (g1 b o (e1 b o z)) np)]
          exact g1 b o (e1 b o z))
        have hbl : bs.length = acc.length := k3.length
        have tot : ∀ u v, amt qs u v = amt (ps.map norm) u v := fun u v => amt_perm hqp
        refine ⟨_, rfl, D, bs.reverse, acc.reverse, rfl, k1, by rw [List.length_reverse, sizeLine_eq]; omega, k3.reverse, fun r hr => ?_, fun H4 s4 => ?_⟩
        · have hr := List.mem_reverse.mp hr
          have h1 := amt_mem (List.pairwise_reverse.mpr k4.desc) (List.mem_reverse.mpr hr)
          rw [amt_perm (List.reverse_perm acc), k4.am, tot] at h1
          have := ham r.1 r.2.1
          omega
        · have k3' := k3.reverse.same s4
          refine ⟨_, rfl, D, rfl, ⟨_, .inl (.inl (s4 _ _ k1))⟩, fun L2 nL2 => ?_⟩
          have hDL2 : D ≠ L2 := ne_of_none (s4 _ _ k1) nL2
          refine lc_list (K := K) (a := D) (xs := bs.reverse) (fun j H5 => Ext H4 H5 ∧ ∃ zs, H5 L2 = some (.lst zs) ∧ Trs K H5 zs ((acc.reverse.take j).filter fun p => decide (0 < p.2.2)) ∧ zs.length ≤ j) ?_ (fun j H5 _ h => .inl (.inl (h.1 _ _ (s4 _ _ k1)))) ?_ ?_
          · exact ⟨fun b o z => by rw [upd_ne (ne_of_none z nL2)]; exact z, [], upd_same, True.intro, Nat.le_refl _⟩
          · rintro j x H5 hx ⟨m1, zs, m2, m3, m4⟩
            obtain ⟨r, hr, t, rfl, hSt⟩ := (k3'.same m1).get hx
            have hjl : j < 64 := by
              have := (List.getElem?_eq_some_iff.mp hx).1
              rw [List.length_reverse] at this
              omega
            have i2 : atI [V.int r.1, V.int r.2.1, V.int r.2.2] 2 = some (.int r.2.2) := atI_nat (xs := [V.int r.1, V.int r.2.1, V.int r.2.2]) (j := 2) rfl
            refine ⟨rfl, .ref t, rfl, t, _, 2, _, rfl, rfl, hSt, i2, r.2.2, 0, rfl, rfl, _, rfl, ?_⟩
            have htk : acc.reverse.take (j + 1) = acc.reverse.take j ++ [r] := by rw [List.take_add_one, hr]; rfl
            by_cases hpos : 0 < r.2.2
            · rw [show decide ((0 : Int) < r.2.2) = true from decide_eq_true hpos]
              refine ⟨.ref t, rfl, zs, m2, by rw [sizeLine_eq]; omega, fun b o z => ?_, zs ++ [.ref t], upd_same, ?_, by rw [List.length_append, List.length_singleton]; omega⟩
              · rw [upd_ne (ne_of_none z nL2)]
                exact m1 b o z
              · rw [htk, List.filter_append, List.filter_cons_of_pos (by simpa using hpos)]
                exact Trs.append (Trs.but m2 (But.upd _ _ _) m3) ⟨⟨t, rfl, SqT.but m2 hSt (But.upd _ _ _)⟩, True.intro⟩
            · rw [show decide ((0 : Int) < r.2.2) = false from decide_eq_false hpos]
              refine ⟨m1, zs, m2, ?_, by omega⟩
              rw [htk, List.filter_append, List.filter_cons_of_neg (by simpa using hpos), List.filter_nil, List.append_nil]
              exact m3
          · rintro H5 ⟨m1, zs, m2, m3, m4⟩
            rw [show bs.reverse.length = acc.reverse.length by rw [List.length_reverse, List.length_reverse, hbl], List.take_length] at m3
            refine ⟨L2, zs, rfl, .inl ⟨.inl (.inl m2), fun t nt => ?_⟩⟩
            have e5 : Ext H H5 := Ext.trans e3 (Ext.trans s4 m1)
            refine q _ t zs _ (fun b o z => ?_) (Same.free e5 nt) upd_same (m3.same (same_upd nt)) ⟨k4.done.asc, k4.done.mem, fun u v => ?_⟩ (by rw [List.length_reverse] at m4; omega)
            · rw [upd_ne (ne_of_none (e5 b o z) nt)]
              exact e5 b o z
            · rw [k4.done.am, tot]
end
end T22
/-! The numbers of ties by their pairs, and the degrees. -/
namespace T22
open PySem PySem.Spec PyProof.Rows L2 Wk
abbrev sDegrees : Stmt := top 22
/-- the dict of a list of bundles: each pair in both orders -/
def both : List T3 → List (List Key × V)
  | [] => []
  | p :: r => ([.inl p.1, .inl p.2.1], .int p.2.2) :: ([.inl p.2.1, .inl p.1], .int p.2.2) :: both r
/-- the ties between two places -/
def look : List T3 → Int → Int → Option Int
  | [], _, _ => none
  | p :: r, u, v => if (p.1 = u ∧ p.2.1 = v) ∨ (p.2.1 = u ∧ p.1 = v) then some p.2.2 else look r u v
theorem valV_both : ∀ (T : List T3) (u v : Int), valV (both T) [.inl u, .inl v] = (look T u v).map V.int
  | [], _, _ => rfl
  | p :: r, u, v => by
    have ih := valV_both r u v
    unfold valV at ih ⊢
    unfold both look
    by_cases h1 : p.1 = u ∧ p.2.1 = v
    · rw [if_pos (.inl h1), List.find?_cons_of_pos (by simp [h1.1, h1.2])]
      rfl
    · rw [List.find?_cons_of_neg (by
        simp only [decide_eq_true_eq]
        intro e
        injection e with e1 e2
        injection e2 with e2 _
        exact h1 ⟨by injection e1, by injection e2⟩)]
      by_cases h2 : p.2.1 = u ∧ p.1 = v
      · rw [if_pos (.inr h2), List.find?_cons_of_pos (by simp [h2.1, h2.2])]
        rfl
      · rw [if_neg (fun h => h.elim h1 h2), List.find?_cons_of_neg (by
          simp only [decide_eq_true_eq]
          intro e
          injection e with e1 e2
          injection e2 with e2 _
          exact h2 ⟨by injection e1, by injection e2⟩)]
        exact ih
def deg (T : List T3) (n : Nat) (u : Int) : Int := ((List.range n).map fun (v : Nat) => (look T u (v : Int)).getD 0).sum
def degs (T : List T3) (n : Nat) : List Int := (List.range n).map fun (u : Nat) => deg T n (u : Int)
def spDegrees : Sp := fun vs H Q _ => ∃ (n : Nat) (d : Addr) (T : List T3), vs = [.int (n : Int), .ref d] ∧ n ≤ 60 ∧ H d = some (.dT (both T)) ∧ ∀ H' g, Same H H' → H g = none → H' g = some (.tup ((degs T n).map V.int)) → Q (.ref g) H'
theorem scDe : FnScope ["size", "numbers", "u", "v"] ["size", "numbers"] (defScope sDegrees) := ⟨rfl, rfl, rfl, by decide +kernel, rfl, by decide +kernel, by decide +kernel⟩
theorem sum_look (T : List T3) (n : Nat) (u : Int) : ((List.range n).filterMap fun (v : Nat) => look T u (v : Int)).sum = deg T n u := by
  unfold deg
  induction List.range n with
  | nil => rfl
  | cons v l ih =>
    rw [List.map_cons, List.sum_cons, ← ih]
    cases h : look T u (v : Int) with
    | none => rw [List.filterMap_cons_none (f := fun (v : Nat) => look T u (v : Int)) h]; simp
    | some z => rw [List.filterMap_cons_some (f := fun (v : Nat) => look T u (v : Int)) h, List.sum_cons]; rfl
section
variable {P : Program} {w : World} {K : PySem.W.Frag} {mg : Str → Option Value} {base : Heap}
theorem ok_degrees {f : Addr} {fd : FuncData} {k : Nat} (F : Fun K "_degrees" "_degrees" sDegrees f fd) (mt : mg "tuple" = none) (ms : mg "sum" = none) (mr : mg "range" = none) : FnOk P w K mg base CX0 (k + 1) f fd ["size", "numbers"] spDegrees := by
  refine F.ok scDe (fun vs H Q E h => ?_) (fun cdv A outer s H vs Q E hr h => ?_)
  · obtain ⟨n, d, T, rfl, _⟩ := h
    rfl
  · obtain ⟨n, d, T, rfl, hn, hd, q⟩ := h
    have hu := hu_of hr
    refine ⟨_, pss_one (ps_ret (pe_callTy call_tuple_of (by rfl) mt (by decide +kernel) (pa_cons
      (pe_lc (own := [("u", 2)]) (g := gName 2) (tt := tYes) rfl scDe.nd (pi_range1 (by rfl) mr (pa_cons (pv 0) pa_nil)) (blkOk_by (N := ["size", "numbers", "u", "v"]) (sc := defScope sDegrees) (by decide +kernel))
        (fun _ _ _ _ _ => pg_name (i := 2) scDe.nd rfl (Or.inr rfl)) (fun _ _ _ _ _ => pts_nil)
        (fun _ _ _ _ _ => pe_callB (r := rSum K) (cr_sum rfl) (by rfl) ms (by decide +kernel) (pa_cons
          (pe_lc (own := [("v", 3)]) (g := gName 3) rfl scDe.nd (pi_range1 (by rfl) mr (pa_cons (pv 0) pa_nil)) (blkOk_by (N := ["size", "numbers", "u", "v"]) (show blkC _ (relS _ (defScope sDegrees)) _ _ = true by decide +kernel))
            (fun _ _ _ _ _ => pg_name (i := 3) scDe.nd rfl (Or.inl rfl)) (fun _ _ _ _ _ => pts_one (pt_cmp (pc_din hu (pe_tup (pa_cons (pv 2) (pa_cons (pv 3) pa_nil))) (pv 1))))
            (fun _ _ _ _ _ => pe_dget hu (pv 1) (pe_tup (pa_cons (pv 2) (pa_cons (pv 3) pa_nil))) (fun _ _ => rfl))) pa_nil))) pa_nil))), ?_⟩
    have en : ((n : Int)).toNat = n := Int.toNat_natCast n
    refine ⟨.int n, rfl, (n : Int), rfl, by omega, by omega, ?_⟩
    rw [en]
    intro D nD
    refine lc_it walk_range (fun i H2 => Ext H H2 ∧ H2 D = some (.lst (((degs T n).take i).map V.int))) ⟨fun b o z => by rw [upd_ne (ne_of_none z nD)]; exact z, upd_same⟩ (fun _ _ _ _ => True.intro) ?_ ?_
    · rintro i x H2 H3 hi ⟨g1, g2⟩ ⟨rfl, rfl⟩
      refine ⟨rfl, .int n, rfl, (n : Int), rfl, by omega, by omega, ?_⟩
      rw [en]
      intro D2 nD2
      have hD2 : D ≠ D2 := ne_of_none g2 nD2
      refine lc_it walk_range (fun j H4 => Ext H3 H4 ∧ H4 D2 = some (.lst (((List.range j).filterMap fun (v : Nat) => look T (i : Int) (v : Int)).map V.int))) ⟨fun b o z => by rw [upd_ne (ne_of_none z nD2)]; exact z, upd_same⟩ (fun _ _ _ _ => True.intro) ?_ ?_
      · rintro j x H4 H5 hj ⟨m1, m2⟩ ⟨rfl, rfl⟩
        refine ⟨rfl, _, rfl, _, rfl, (by show 2 ≤ sizeLine; decide), fun R nR => ?_⟩
        have sR : Same H5 (upd H5 R (.tup [.int (0 + (i : Int)), .int (0 + (j : Int))])) := same_upd nR
        have hd5 := sR _ _ (m1 _ _ (g1 _ _ hd))
        have e : valV (both T) [.inl (0 + (i : Int)), .inl (0 + (j : Int))] = (look T (i : Int) (j : Int)).map V.int := by rw [valV_both, Int.zero_add, Int.zero_add]
        refine ⟨.ref d, rfl, d, _, rfl, DGet.t (k := [.inl (0 + (i : Int)), .inl (0 + (j : Int))]) hd5 upd_same, ?_⟩
        have hlen : ∀ (f : Nat → Option Int) (j : Nat), ((List.range j).filterMap f).length ≤ j := fun f j => by
          have := List.length_filterMap_le f (List.range j)
          rwa [List.length_range] at this
        rw [e]
        cases hl : look T (i : Int) (j : Int) with
        | none =>
          refine ⟨_, rfl, fun b o z => by exact sR _ _ (m1 b o z), ?_⟩
          rw [sR _ _ m2, List.range_succ, List.filterMap_append]
          simp [hl]
        | some z0 =>
          refine ⟨_, rfl, .ref d, rfl, _, rfl, _, rfl, (by show 2 ≤ sizeLine; decide), fun R2 nR2 => ?_⟩
          have sR2 : Same (upd H5 R (.tup [.int (0 + (i : Int)), .int (0 + (j : Int))])) (upd (upd H5 R (.tup [.int (0 + (i : Int)), .int (0 + (j : Int))])) R2 (.tup [.int (0 + (i : Int)), .int (0 + (j : Int))])) := same_upd nR2
          have e2 := DGet.t (k := [.inl (0 + (i : Int)), .inl (0 + (j : Int))]) (sR2 _ _ hd5) (upd_same (H := upd H5 R (.tup [.int (0 + (i : Int)), .int (0 + (j : Int))])) (a := R2) (o := .tup [.int (0 + (i : Int)), .int (0 + (j : Int))]))
          rw [e, hl] at e2
          refine ⟨d, _, rfl, e2, _, sR2 _ _ (sR _ _ m2), ?_, fun b o z => ?_, ?_⟩
          · rw [List.length_map, sizeLine_eq]
            have := hlen (fun (v : Nat) => look T (i : Int) (v : Int)) j
            omega
          · rw [upd_ne (ne_of_none z nD2)]
            exact sR2 _ _ (sR _ _ (m1 b o z))
          · rw [upd_same, List.range_succ, List.filterMap_append]
            simp [hl]
      · rintro H4 ⟨m1, m2⟩
        refine ⟨D2, _, rfl, .inl (.inl m2), _, m1 _ _ g2, ?_, ?_, ?_⟩
        · rw [List.length_map, List.length_take, sizeLine_eq]
          omega
        · intro b o z
          rw [upd_ne (ne_of_none z nD)]
          exact m1 _ _ (g1 b o z)
        · have hi' : i < (degs T n).length := by unfold degs; rw [List.length_map, List.length_range]; exact hi
          have ei : (degs T n)[i]? = some (deg T n (i : Int)) := by
            unfold degs
            rw [List.getElem?_map, List.getElem?_range hi]
            rfl
          rw [upd_same, List.take_add_one, ei, List.map_append, sum_look]
          rfl
    · rintro H2 ⟨g1, g2⟩
      refine ⟨D, _, rfl, .inl ⟨.inl (.inl g2), fun g ng => ?_⟩⟩
      rw [List.take_of_length_le (by unfold degs; rw [List.length_map, List.length_range]; exact Nat.le_refl _)]
      exact q _ g (fun b o z => by rw [upd_ne (ne_of_none (g1 b o z) ng)]; exact g1 b o z) (Same.free g1 ng) upd_same
end
end T22
/-! The readings of a dict comprehension with two clauses, both over tuples that stay. -/
namespace Wk
open PySem PySem.Spec PyProof.Rows L2
theorem dc2_tup {K : PySem.W.Frag} {a : Addr} {xs : List V} {g : TG} {wi1 : TI} {g1 : TG} {tk tv : TE} {vs vs1 : List Nat} {σ : L2.St} {H1 : Hp} {D : Addr} {Qd : Hp → Prop} (Pv : Nat → Hp → Prop) (h0 : Pv 0 (upd H1 D (.dT []))) (hl : ∀ i H, i ≤ xs.length → Pv i H → SqT K H a xs)
    (hs : ∀ i x H, xs[i]? = some x → Pv i H → g x (wipe σ vs) H fun σ2 H2 => wipe σ2 vs = wipe σ vs ∧ tDcIn wi1 g1 tk tv vs1 D (Pv (i + 1)) σ2 H2) (hd : ∀ H, Pv xs.length H → Qd H) :
    ∃ W : Nat → Nat → Hp → Prop, (∃ m, W 0 m (upd H1 D (.dT []))) ∧ ∀ i m H, W i m H →
      ((Itt K a).stop i H ∧ Qd H) ∨ ((Itt K a).go i H ∧ ∃ Nx : Hp → Prop, (∀ H', Nx H' → ∃ m', m' < m ∧ W (i + 1) m' H') ∧ ∀ x H', (Itt K a).yld i H x H' → g x (wipe σ vs) H' fun σ2 H2 => wipe σ2 vs = wipe σ vs ∧ tDcIn wi1 g1 tk tv vs1 D Nx σ2 H2) := by
  refine ⟨fun i m H => m = xs.length - i ∧ i ≤ xs.length ∧ Pv i H, ⟨xs.length, by simp, Nat.zero_le _, h0⟩, ?_⟩
  rintro i m H ⟨rfl, hi, p⟩
  have q := hl i H hi p
  by_cases hlt : i < xs.length
  · exact .inr ⟨walk_tup.goes i H hlt q, Pv (i + 1), fun H' p' => ⟨xs.length - (i + 1), by omega, rfl, hlt, p'⟩, fun x H' y => by
      obtain ⟨rfl, hx⟩ := walk_tup.yields i H x H' hlt q y
      exact hs i x _ hx p⟩
  · obtain rfl : i = xs.length := by omega
    exact .inl ⟨walk_tup.stops H q, hd H p⟩
theorem dc2_in {K : PySem.W.Frag} {a : Addr} {xs : List V} {g1 : TG} {tk tv : TE} {vs1 : List Nat} {σ2 : L2.St} {H4 : Hp} {D : Addr} {Nx : Hp → Prop} (Pv : Nat → Hp → Prop) (h0 : Pv 0 H4) (hl : ∀ i H, i ≤ xs.length → Pv i H → SqT K H a xs)
    (hs : ∀ i x H, xs[i]? = some x → Pv i H → g1 x (wipe σ2 vs1) H fun σ3 H5 => wipe σ3 vs1 = wipe σ2 vs1 ∧ tk σ3 H5 fun y H6 => tv σ3 H6 fun z H7 => ∃ (kvs : List (List Key × V)) (q : List Key) (b : Addr), y = .ref b ∧ H7 b = some (.tup (q.map kV)) ∧ H7 D = some (.dT kvs) ∧ kvs.length < sizeLine ∧ Pv (i + 1) (upd H7 D (.dT (putK kvs q z))))
    (hd : ∀ H, Pv xs.length H → Nx H) :
    ∃ W1 : Nat → Nat → Hp → Prop, (∃ m, W1 0 m H4) ∧ ∀ j k H, W1 j k H → ((Itt K a).stop j H ∧ Nx H) ∨ ((Itt K a).go j H ∧ ∃ Nx1 : Hp → Prop, (∀ H', Nx1 H' → ∃ k', k' < k ∧ W1 (j + 1) k' H') ∧ ∀ x H', (Itt K a).yld j H x H' → g1 x (wipe σ2 vs1) H' fun σ3 H5 => wipe σ3 vs1 = wipe σ2 vs1 ∧
      tk σ3 H5 fun y H6 => tv σ3 H6 fun z H7 => ∃ (kvs : List (List Key × V)) (q : List Key) (b : Addr), y = .ref b ∧ H7 b = some (.tup (q.map kV)) ∧ H7 D = some (.dT kvs) ∧ kvs.length < sizeLine ∧ Nx1 (upd H7 D (.dT (putK kvs q z)))) := by
  refine ⟨fun i m H => m = xs.length - i ∧ i ≤ xs.length ∧ Pv i H, ⟨xs.length, by simp, Nat.zero_le _, h0⟩, ?_⟩
  rintro i m H ⟨rfl, hi, p⟩
  have q := hl i H hi p
  by_cases hlt : i < xs.length
  · exact .inr ⟨walk_tup.goes i H hlt q, Pv (i + 1), fun H' p' => ⟨xs.length - (i + 1), by omega, rfl, hlt, p'⟩, fun x H' y => by
      obtain ⟨rfl, hx⟩ := walk_tup.yields i H x H' hlt q y
      exact hs i x _ hx p⟩
  · obtain rfl : i = xs.length := by omega
    exact .inl ⟨walk_tup.stops H q, hd H p⟩
end Wk
/-! The constructor of a web. -/
namespace T22
open PySem PySem.Spec PyProof.Rows L2 Wk
abbrev sInit : Stmt := inClass (top 15) 0
/-- what the text says of the class -/
structure TxtW (K : PySem.W.Frag) (mg : Str → Option Value) (C : Addr) : Prop where
  cl : Cls K C
  n1 : NoAttr K C "size"
  n2 : NoAttr K C "ties"
  n3 : NoAttr K C "total"
  n4 : NoAttr K C "_numbers"
  n5 : NoAttr K C "degrees"
  msum : mg "sum" = none
def total (T : List T3) : Int := (T.map fun p => p.2.2).sum
/-- a web stands at w -/
structure WebAt (K : PySem.W.Frag) (C : Addr) (H : Hp) (w : Addr) (n : Nat) (T : List T3) : Prop where
  ex : ∃ dx t ys d g, H w = some (.ins C dx [("size", .int (n : Int)), ("ties", .ref t), ("total", .int (total T)), ("_numbers", .ref d), ("degrees", .ref g)]) ∧ H t = some (.tup ys) ∧ Trs K H ys T ∧ H d = some (.dT (both T)) ∧ H g = some (.tup ((degs T n).map V.int))
theorem WebAt.same {K : PySem.W.Frag} {C : Addr} {H H' : Hp} {w : Addr} {n : Nat} {T : List T3} (h : WebAt K C H w n T) (s : Same H H') : WebAt K C H' w n T := by
  obtain ⟨dx, t, ys, d, g, h1, h2, h3, h4, h5⟩ := h.ex
  exact ⟨dx, t, ys, d, g, s _ _ h1, s _ _ h2, h3.same s, s _ _ h4, s _ _ h5⟩
def spInit (K : PySem.W.Frag) (C : Addr) : Sp := fun vs H Q _ => ∃ (w : Addr) (n : Nat) (a dx : Addr) (xs : List V) (ps : List T3), vs = [.ref w, .int (n : Int), .ref a] ∧ H w = some (.ins C dx []) ∧ n ≤ 60 ∧ SqS K H a xs ∧ Trs K H xs ps ∧ ps.length < 64 ∧
  (∀ p ∈ ps, tieB p.1 p.2.1 p.2.2 (n : Int) = true) ∧ (∀ u v, amt (ps.map norm) u v ≤ 1000000000) ∧
  ∀ H' T, But w H H' → TiesOf (n : Int) (amt (ps.map norm)) T → WebAt K C H' w n T → Q .non H'
theorem scIn : FnScope ["self", "size", "ties", "tie", "u", "v", "number", "pair"] ["self", "size", "ties"] (defScope sInit) := ⟨rfl, rfl, rfl, by decide +kernel, rfl, by decide +kernel, by decide +kernel⟩
theorem SqT.butW {K : PySem.W.Frag} {H H' : Hp} {D t C dx : Addr} {fs : List (Str × V)} {xs : List V} (hD : H D = some (.ins C dx fs)) (h : SqT K H t xs) (b : But D H H') : SqT K H' t xs := by
  rcases h with (h | ⟨o, h⟩) | h
  · exact .inl (.inl (b t _ (fun e => by rw [e, hD] at h; cases h) h))
  · exact .inl (.inr ⟨o, b t _ (fun e => by rw [e, hD] at h; cases h) h⟩)
  · exact .inr h
theorem SqL.butW {K : PySem.W.Frag} {H H' : Hp} {D t C dx : Addr} {fs : List (Str × V)} {xs : List V} (hD : H D = some (.ins C dx fs)) (h : SqL K H t xs) (b : But D H H') : SqL K H' t xs := by
  rcases h with (h | ⟨o, h⟩) | h
  · exact .inl (.inl (b t _ (fun e => by rw [e, hD] at h; cases h) h))
  · exact .inl (.inr ⟨o, b t _ (fun e => by rw [e, hD] at h; cases h) h⟩)
  · exact .inr h
theorem Trs.butW {K : PySem.W.Frag} {H H' : Hp} {D C dx : Addr} {fs : List (Str × V)} (hD : H D = some (.ins C dx fs)) (b : But D H H') : ∀ {xs : List V} {ps : List T3}, Trs K H xs ps → Trs K H' xs ps
  | [], [], _ => True.intro
  | _ :: _, _ :: _, h => ⟨let ⟨t, e, q⟩ := h.1; ⟨t, e, SqT.butW hD q b⟩, Trs.butW hD b h.2⟩
  | [], _ :: _, h => h.elim
  | _ :: _, [], h => h.elim
abbrev F1 (x : V) : List (Str × V) := [(("size" : Str), x)]
abbrev F2 (x y : V) : List (Str × V) := [(("size" : Str), x), (("ties" : Str), y)]
abbrev F3 (x y z : V) : List (Str × V) := [(("size" : Str), x), (("ties" : Str), y), (("total" : Str), z)]
abbrev F4 (x y z u : V) : List (Str × V) := [(("size" : Str), x), (("ties" : Str), y), (("total" : Str), z), (("_numbers" : Str), u)]
abbrev F5 (x y z u v : V) : List (Str × V) := [(("size" : Str), x), (("ties" : Str), y), (("total" : Str), z), (("_numbers" : Str), u), (("degrees" : Str), v)]
theorem pf1 (x : V) : putF "size" x [] = F1 x := rfl
theorem pf2 (x y : V) : putF "ties" y (F1 x) = F2 x y := by kernel_rfl
theorem pf3 (x y z : V) : putF "total" z (F2 x y) = F3 x y z := by kernel_rfl
theorem pf4 (x y z u : V) : putF "_numbers" u (F3 x y z) = F4 x y z u := by kernel_rfl
theorem pf5 (x y z u v : V) : putF "degrees" v (F4 x y z u) = F5 x y z u v := by kernel_rfl
theorem lk2 (x y : V) : (F2 x y).lookup ("ties" : Str) = some y := by kernel_rfl
theorem lk3 (x y z : V) : (F3 x y z).lookup ("ties" : Str) = some y := by kernel_rfl
theorem lk4 (x y z u : V) : (F4 x y z u).lookup ("_numbers" : Str) = some u := by kernel_rfl
theorem both_append : ∀ (l m : List T3), both (l ++ m) = both l ++ both m
  | [], _ => rfl
  | p :: r, m => by
    show _ :: _ :: both (r ++ m) = _
    rw [both_append r m]
    rfl
theorem both_length : ∀ l : List T3, (both l).length = 2 * l.length
  | [] => rfl
  | p :: r => by
    show (both r).length + 1 + 1 = 2 * (r.length + 1)
    rw [both_length r]
    omega
theorem both_any : ∀ {l : List T3} {u v : Int}, (∀ p ∈ l, ¬ (p.1 = u ∧ p.2.1 = v) ∧ ¬ (p.2.1 = u ∧ p.1 = v)) → ((both l).any fun kv => decide (kv.1 = ([.inl u, .inl v] : List Key))) = false
  | [], _, _, _ => rfl
  | p :: r, u, v, h => by
    obtain ⟨h1, h2⟩ := h p List.mem_cons_self
    have ih := both_any (l := r) (u := u) (v := v) fun q hq => h q (List.mem_cons_of_mem _ hq)
    have e1 : ¬ (([.inl p.1, .inl p.2.1] : List Key) = [.inl u, .inl v]) := fun e => by
      injection e with e1 e2
      injection e2 with e2 _
      exact h1 ⟨by injection e1, by injection e2⟩
    have e2 : ¬ (([.inl p.2.1, .inl p.1] : List Key) = [.inl u, .inl v]) := fun e => by
      injection e with e1 e2
      injection e2 with e2 _
      exact h2 ⟨by injection e1, by injection e2⟩
    unfold both
    rw [List.any_cons, List.any_cons, ih, decide_eq_false e1, decide_eq_false e2]
    rfl
theorem putK_new {kvs : List (List Key × V)} {k : List Key} {v : V} (h : (kvs.any fun kv => decide (kv.1 = k)) = false) : putK kvs k v = kvs ++ [(k, v)] := by
  unfold putK
  rw [h]
  rfl
section
variable {P : Program} {w : World} {K : PySem.W.Frag} {mg : Str → Option Value} {base : Heap}
/-- a def with defaults, by its body -/
theorem okD {x qual : Str} {params : Arguments} {body : List Stmt} {scope : Scope} {dvs : List V} {kws : List (Str × V)} {f : Addr} {fd : FuncData} {N ps : List Str} {k : Nat} {sp : Sp} (F : FunD K x qual params body scope dvs kws f fd) (S : FnScope N ps scope)
    (len : ∀ vs H Q E, sp vs H Q E → vs.length = ps.length) (hb : ∀ (cdv : Value) (A : Around) (outer : List Env) (s : Shared) (H : Hp) (vs : List V) (Q : VK) (E : XK), Room k (A.deeper (envOfC qual scope s.heap.objs.size f cdv)) → sp vs H Q E →
      ∃ t, PSs (cxOf CX0 P w K mg base N qual scope f cdv A outer s H E).nox body t ∧ t { nx := fun _ H' => Q .non H', rt := Q } (start N vs) H) : FnOk P w K mg base CX0 (k + 1) f fd ps sp :=
  FunD.ok F S len fun cdv A outer s H vs Q E hr h => let ⟨t, h, q⟩ := hb cdv A outer s H vs Q E hr h; ⟨t, h.nox, q⟩
theorem ok_init {C f fn fb fg aE : Addr} {fd fdn fdb fdg : FuncData} {k : Nat} (F : FunD K "__init__" "Web.__init__" (defArgs sInit) (defBody sInit) (defScope sInit) [.ref aE] [] f fd) (T : TxtW K mg C) (GN : FnOk P w K mg base CX0 k fn fdn ["size", "ties"] (spNeed K)) (gN : mg "_need_arguments" = some (.ref fn)) (kN : PySem.W.keepIn K (.ref fn) = true) (bN : Binds K fdn ["size", "ties"] [])
    (GB : FnOk P w K mg base CX0 k fb fdb ["ties"] (spBundles K)) (gB : mg "_bundles" = some (.ref fb)) (kB : PySem.W.keepIn K (.ref fb) = true) (bB : Binds K fdb ["ties"] [])
    (GD : FnOk P w K mg base CX0 k fg fdg ["size", "numbers"] spDegrees) (gD : mg "_degrees" = some (.ref fg)) (kD : PySem.W.keepIn K (.ref fg) = true) (bD : Binds K fdg ["size", "numbers"] []) :
    FnOk P w K mg base CX0 (k + 1) f fd ["self", "size", "ties"] (spInit K C) := by
  refine okD F scIn (fun vs H Q E h => ?_) (fun cdv A outer s H vs Q E hr h => ?_)
  · obtain ⟨w, n, a, dx, xs, ps, rfl, _⟩ := h
    rfl
  · obtain ⟨w, n, a, dx, xs, ps, rfl, hw, hn, hS, hT, h64, hv, ham, q⟩ := h
    have hu := hu_of hr
    refine ⟨_, pss_cons (ps_expr (pe_call GN hr rfl gN kN bN .nil pass0 (pa_cons (pv 1) (pa_cons (pv 2) pa_nil))))
      (pss_cons (ps_fld (pv 0) (pv 1) rfl)
      (pss_cons (ps_fld (pv 0) (pe_call GB hr rfl gB kB bB .nil pass0 (pa_cons (pv 2) pa_nil)) rfl)
      (pss_cons (ps_fld (pv 0) (pe_callB (r := rSum K) (cr_sum rfl) (by rfl) T.msum (by decide +kernel) (pa_cons
        (pe_lc (own := [("tie", 3)]) (g := gName 3) (tt := tYes) rfl scIn.nd (pi_tup (pe_fld (pv 0) rfl)) (blkOk_by (N := ["self", "size", "ties", "tie", "u", "v", "number", "pair"]) (sc := defScope sInit) (by decide +kernel))
          (fun _ _ _ _ _ => pg_name (i := 3) scIn.nd rfl (Or.inl rfl)) (fun _ _ _ _ _ => pts_nil) (fun _ _ _ _ _ => pe_ix (r := rIxT K) ix_tup (pv 3) pe_int (fun _ _ => rfl))) pa_nil)) rfl)
      (pss_cons (ps_fld (pv 0) (pe_dc2 (own := [("u", 4), ("v", 5), ("number", 6), ("pair", 7)]) (vs1 := [7]) (g := gTup K 3 (gCons (gName 4) (gCons (gName 5) (gCons (gName 6) gNil)))) (g1 := gName 7) (wi1 := iTup K (tTup (tCons (tTup (tCons (tVar 4) (tCons (tVar 5) tNil))) (tCons (tTup (tCons (tVar 5) (tCons (tVar 4) tNil))) tNil))))
          rfl (Nat.lt_of_succ_lt hu) scIn.nd (pi_tup (pe_fld (pv 0) rfl)) (blkOk_by (N := ["self", "size", "ties", "tie", "u", "v", "number", "pair"]) (sc := defScope sInit) (by decide +kernel)) (by decide)
          (fun _ _ _ _ _ => pg_tup rfl (pgs_cons (pg_name (i := 4) scIn.nd rfl (Or.inl rfl)) (pgs_cons (pg_name (i := 5) scIn.nd rfl (Or.inl rfl)) (pgs_cons (pg_name (i := 6) scIn.nd rfl (Or.inl rfl)) pgs_nil))))
          (fun _ _ _ _ _ => pi_tup (pe_tup (pa_cons (pe_tup (pa_cons (pv 4) (pa_cons (pv 5) pa_nil))) (pa_cons (pe_tup (pa_cons (pv 5) (pa_cons (pv 4) pa_nil))) pa_nil))))
          (fun _ _ _ _ _ => pg_name (i := 7) scIn.nd rfl (Or.inl rfl)) (fun _ _ _ _ _ => pv 7) (fun _ _ _ _ _ => pv 6)) rfl)
      (pss_one (ps_fld (pv 0) (pe_call GD hr rfl gD kD bD .nil pass0 (pa_cons (pv 1) (pa_cons (pe_fld (pv 0) rfl) pa_nil))) rfl)))))), ?_⟩
    refine ⟨_, rfl, _, rfl, (n : Int), a, xs, ps, rfl, by omega, by omega, hS, hT, hv, fun H1 s1 => ?_⟩
    have hw1 := s1 _ _ hw
    refine ⟨_, rfl, .ref w, rfl, w, C, dx, [], rfl, hw1, T.cl, T.n1, (by show 0 < 1000; decide), ?_⟩
    rw [pf1]
    have b2 : But w H1 (upd H1 w (.ins C dx (F1 (.int (n : Int))))) := But.upd _ _ _
    have hS2 : SqS K (upd H1 w (.ins C dx (F1 (.int (n : Int))))) a xs := (hS.ext s1).elim (fun h => .inl (SqL.butW hw1 h b2)) fun h => .inr (SqT.butW hw1 h b2)
    refine ⟨_, rfl, (n : Int), a, xs, ps, rfl, by omega, hS2, Trs.butW hw1 b2 (hT.same s1), h64, hv, ham, fun H3 t ys TT s3 nt ht hTr hTi hy64 => ?_⟩
    have hw3 := s3 _ _ upd_same
    have hwt : w ≠ t := ne_of_none upd_same nt
    refine ⟨.ref w, rfl, w, C, dx, _, rfl, hw3, T.cl, T.n2, (by show 1 < 1000; decide), ?_⟩
    rw [pf2]
    have b4 : But w H3 (upd H3 w (.ins C dx (F2 (.int (n : Int)) (.ref t)))) := But.upd _ _ _
    have hTr4 := Trs.butW hw3 b4 hTr
    have ht4 : (upd H3 w (.ins C dx (F2 (.int (n : Int)) (.ref t)))) t = some (.tup ys) := b4 _ _ (Ne.symm hwt) ht
    have b04 : But w H (upd H3 w (.ins C dx (F2 (.int (n : Int)) (.ref t)))) := (But.of s1).trans (b2.trans ((But.of s3).trans b4))
    have hw4 : (upd H3 w (.ins C dx (F2 (.int (n : Int)) (.ref t)))) w = some (.ins C dx (F2 (.int (n : Int)) (.ref t))) := upd_same
    generalize upd H3 w (.ins C dx (F2 (.int (n : Int)) (.ref t))) = H4 at hTr4 ht4 b04 hw4 ⊢
    -- the total
    have hyl : ys.length = TT.length := hTr4.length
    have hTl : ys.length < sizeLine := by rw [sizeLine_eq]; omega
    refine ⟨.ref w, rfl, w, C, dx, _, _, rfl, hw4, T.cl, T.n2, lk2 _ _, t, rfl, ⟨ys, .inl (.inl ht4)⟩, fun D nD => ?_⟩
    have hDt : t ≠ D := ne_of_none ht4 nD
    refine lc_tup (K := K) (a := t) (xs := ys) (fun i H5 => Ext H4 H5 ∧ H5 D = some (.lst (((TT.take i).map fun p => p.2.2).map V.int))) ⟨fun b o z => by rw [upd_ne (ne_of_none z nD)]; exact z, upd_same⟩ (fun i H5 _ h => .inl (.inl (h.1 _ _ ht4))) ?_ ?_
    · rintro i x H5 hx ⟨m1, m2⟩
      obtain ⟨p, hp, t', rfl, hSt⟩ := (hTr4.same m1).get hx
      have hi := (List.getElem?_eq_some_iff.mp hx).1
      have i2 : atI [V.int p.1, V.int p.2.1, V.int p.2.2] 2 = some (.int p.2.2) := atI_nat (xs := [V.int p.1, V.int p.2.1, V.int p.2.2]) (j := 2) rfl
      refine ⟨rfl, _, rfl, t', _, 2, _, rfl, rfl, hSt, i2, _, m2, ?_, fun b o z => ?_, ?_⟩
      · rw [List.length_map, List.length_map, List.length_take]
        omega
      · rw [upd_ne (ne_of_none z nD)]
        exact m1 b o z
      · rw [upd_same, List.take_add_one, hp, List.map_append, List.map_append]
        rfl
    rintro H5 ⟨m1, m2⟩
    rw [hyl, List.take_length] at m2
    refine ⟨D, _, rfl, .inl (.inl m2), .ref w, rfl, w, C, dx, _, rfl, m1 _ _ hw4, T.cl, T.n3, (by show 2 < 1000; decide), ?_⟩
    rw [pf3]
    have b6 : But w H5 (upd H5 w (.ins C dx (F3 (.int (n : Int)) (.ref t) (.int (TT.map fun p => p.2.2).sum)))) := But.upd _ _ _
    have hw5 := m1 _ _ hw4
    have hTr6 := Trs.butW hw5 b6 (hTr4.same m1)
    have hwt' : t ≠ w := Ne.symm hwt
    have ht6 := b6 _ _ hwt' (m1 _ _ ht4)
    have b06 := b04.trans ((But.of m1).trans b6)
    have hw6 : (upd H5 w (.ins C dx (F3 (.int (n : Int)) (.ref t) (.int (TT.map fun p => p.2.2).sum)))) w = some (.ins C dx (F3 (.int (n : Int)) (.ref t) (.int (TT.map fun p => p.2.2).sum))) := upd_same
    generalize upd H5 w (.ins C dx (F3 (.int (n : Int)) (.ref t) (.int (TT.map fun p => p.2.2).sum))) = H6 at hTr6 ht6 b06 hw6 ⊢
    -- the numbers by their pairs
    refine ⟨.ref w, rfl, w, C, dx, _, _, rfl, hw6, T.cl, T.n2, lk3 _ _ _, t, rfl, ⟨ys, .inl (.inl ht6)⟩, fun D2 nD2 => ?_⟩
    refine dc2_tup (K := K) (a := t) (xs := ys) (fun i H => Ext H6 H ∧ H D2 = some (.dT (both (TT.take i)))) ⟨fun b o z => by rw [upd_ne (ne_of_none z nD2)]; exact z, upd_same⟩ (fun i H _ h => .inl (.inl (h.1 _ _ ht6))) ?_ ?_
    · rintro i x H7 hx ⟨r1, r2⟩
      obtain ⟨p, hp, t', rfl, hSt⟩ := (hTr6.same r1).get hx
      have hi : i < TT.length := (List.getElem?_eq_some_iff.mp hp).1
      have hpe : TT[i] = p := (List.getElem?_eq_some_iff.mp hp).2
      have hpm := hTi.mem p (List.mem_of_getElem? hp)
      have hlt : ∀ q ∈ TT.take i, lt2 q p := fun q hq => by
        obtain ⟨j, hj, rfl⟩ := List.mem_iff_getElem.mp hq
        rw [List.length_take] at hj
        have := List.pairwise_iff_getElem.mp hTi.asc j i (by omega) hi (by omega)
        rw [List.getElem_take]
        rwa [hpe] at this
      have hq : ∀ q ∈ TT.take i, q.1 < q.2.1 := fun q hq => (hTi.mem q (List.mem_of_mem_take hq)).2.1
      have htk : TT.take (i + 1) = TT.take i ++ [p] := by rw [List.take_add_one, hp]; rfl
      have hbl : (both (TT.take i)).length < 200 := by rw [both_length, List.length_take]; omega
      have hbig : 1000 < sizeLine := by rw [sizeLine_eq]; decide
      refine ⟨t', _, rfl, hSt, rfl, _, _, rfl, _, _, rfl, _, _, rfl, rfl, rfl, ?_⟩
      refine ⟨_, rfl, _, rfl, (by show 2 ≤ sizeLine; decide), fun A1 n1 => ?_⟩
      refine ⟨_, rfl, _, rfl, (by show 2 ≤ sizeLine; decide), fun A2 n2 => ⟨(by show 2 ≤ sizeLine; decide), fun A3 n3 => ?_⟩⟩
      have q1 := same_upd (o := .tup [.int p.1, .int p.2.1]) n1
      have q2 := same_upd (o := .tup [.int p.2.1, .int p.1]) n2
      have q3 := same_upd (o := .tup [.ref A1, .ref A2]) n3
      have a1 := q3 _ _ (q2 _ _ (upd_same (H := H7) (a := A1) (o := .tup [.int p.1, .int p.2.1])))
      have a2 := q3 _ _ (upd_same (H := upd H7 A1 (.tup [.int p.1, .int p.2.1])) (a := A2) (o := .tup [.int p.2.1, .int p.1]))
      have d3 := q3 _ _ (q2 _ _ (q1 _ _ r2))
      have e13 : Ext H7 (upd (upd (upd H7 A1 (.tup [.int p.1, .int p.2.1])) A2 (.tup [.int p.2.1, .int p.1])) A3 (.tup [.ref A1, .ref A2])) := Ext.trans q1 (Ext.trans q2 q3)
      have a3 : (upd (upd (upd H7 A1 (.tup [.int p.1, .int p.2.1])) A2 (.tup [.int p.2.1, .int p.1])) A3 (.tup [.ref A1, .ref A2])) A3 = some (.tup [.ref A1, .ref A2]) := upd_same
      generalize upd (upd (upd H7 A1 (.tup [.int p.1, .int p.2.1])) A2 (.tup [.int p.2.1, .int p.1])) A3 (.tup [.ref A1, .ref A2]) = H8 at a1 a2 a3 d3 e13 ⊢
      have hA1 : A1 ≠ D2 := fun e => by rw [e, d3] at a1; cases a1
      have hA2 : A2 ≠ D2 := fun e => by rw [e, d3] at a2; cases a2
      have hA3 : A3 ≠ D2 := fun e => by rw [e, d3] at a3; cases a3
      refine ⟨A3, rfl, ⟨_, .inl (.inl a3)⟩, ?_⟩
      refine dc2_in (K := K) (a := A3) (xs := [.ref A1, .ref A2]) (fun j H => But D2 H8 H ∧ H D2 = some (.dT (both (TT.take i) ++ (both [p]).take j))) ⟨But.refl _ _, by rw [List.take_zero, List.append_nil]; exact d3⟩ (fun j H _ h => .inl (.inl (h.1 _ _ hA3 a3))) ?_ ?_
      · rintro j x H9 hx ⟨u1, u2⟩
        match j, hx, u2 with
        | 0, hx, u2 =>
          cases hx
          rw [List.take_zero, List.append_nil] at u2
          refine ⟨rfl, _, rfl, _, rfl, _, [.inl p.1, .inl p.2.1], A1, rfl, u1 _ _ hA1 a1, u2, by omega, u1.trans (But.upd _ _ _), ?_⟩
          rw [upd_same, putK_new (both_any fun q hm => by have := hlt q hm; have := hq q hm; unfold lt2 at *; omega)]
          rfl
        | 1, hx, u2 =>
          cases hx
          refine ⟨rfl, _, rfl, _, rfl, _, [.inl p.2.1, .inl p.1], A2, rfl, u1 _ _ hA2 a2, u2, ?_, u1.trans (But.upd _ _ _), ?_⟩
          · rw [List.length_append]
            have : ((both [p]).take 1).length ≤ 1 := List.length_take_le _ _
            omega
          · have e1 : ¬ (([.inl p.1, .inl p.2.1] : List Key) = [.inl p.2.1, .inl p.1]) := fun e => by
              injection e with e1 _
              injection e1 with e1
              omega
            rw [upd_same, putK_new (by
              rw [List.any_append, both_any fun q hm => by have := hlt q hm; have := hq q hm; unfold lt2 at *; omega]
              show (false || (decide (([.inl p.1, .inl p.2.1] : List Key) = [.inl p.2.1, .inl p.1]) || false)) = false
              rw [decide_eq_false e1]
              rfl), List.append_assoc]
            rfl
        | j + 2, hx, _ => cases hx
      · rintro H9 ⟨u1, u2⟩
        refine ⟨fun b o z => u1 b o (fun e => by rw [e, nD2] at z; cases z) (e13 _ _ (r1 b o z)), ?_⟩
        rw [htk, both_append]
        exact u2
    rintro H7 ⟨r1, r2⟩
    rw [hyl, List.take_length] at r2
    refine ⟨.ref w, rfl, w, C, dx, _, rfl, r1 _ _ hw6, T.cl, T.n4, (by show 3 < 1000; decide), ?_⟩
    rw [pf4]
    have b8 : But w H7 (upd H7 w (.ins C dx (F4 (.int (n : Int)) (.ref t) (.int (TT.map fun p => p.2.2).sum) (.ref D2)))) := But.upd _ _ _
    have hw7 := r1 _ _ hw6
    have hwD2 : D2 ≠ w := fun e => by rw [e, hw7] at r2; cases r2
    have hTr8 := Trs.butW hw7 b8 (hTr6.same r1)
    have ht8 := b8 _ _ hwt' (r1 _ _ ht6)
    have hd8 := b8 _ _ hwD2 r2
    have b08 := b06.trans ((But.of r1).trans b8)
    have hw8 : (upd H7 w (.ins C dx (F4 (.int (n : Int)) (.ref t) (.int (TT.map fun p => p.2.2).sum) (.ref D2)))) w = some (.ins C dx (F4 (.int (n : Int)) (.ref t) (.int (TT.map fun p => p.2.2).sum) (.ref D2))) := upd_same
    generalize upd H7 w (.ins C dx (F4 (.int (n : Int)) (.ref t) (.int (TT.map fun p => p.2.2).sum) (.ref D2))) = H8 at hTr8 ht8 hd8 b08 hw8 ⊢
    -- the degrees
    refine ⟨_, rfl, .ref w, rfl, w, C, dx, _, _, rfl, hw8, T.cl, T.n4, lk4 _ _ _ _, n, D2, TT, rfl, hn, hd8, fun H9 g s9 ng hg => ?_⟩
    have hw9 := s9 _ _ hw8
    have hwg : g ≠ w := fun e => by rw [e, hw9] at hg; cases hg
    refine ⟨.ref w, rfl, w, C, dx, _, rfl, hw9, T.cl, T.n5, (by show 4 < 1000; decide), ?_⟩
    rw [pf5]
    have b10 : But w H9 (upd H9 w (.ins C dx (F5 (.int (n : Int)) (.ref t) (.int (TT.map fun p => p.2.2).sum) (.ref D2) (.ref g)))) := But.upd _ _ _
    exact q _ TT (b08.trans ((But.of s9).trans b10)) hTi ⟨dx, t, ys, D2, g, upd_same, b10 _ _ hwt' (s9 _ _ ht8), Trs.butW hw9 b10 (hTr8.same s9), b10 _ _ hwD2 (s9 _ _ hd8), b10 _ _ hwg hg⟩
end
end T22
/-! web[u, v], x in web. -/
namespace T22
open PySem PySem.Spec PyProof.Rows L2 Wk
abbrev sGet : Stmt := inClass (top 15) 1
abbrev sCont : Stmt := inClass (top 15) 3
theorem lk5s (x y z u v : V) : (F5 x y z u v).lookup ("size" : Str) = some x := by kernel_rfl
theorem lk5t (x y z u v : V) : (F5 x y z u v).lookup ("ties" : Str) = some y := by kernel_rfl
theorem lk5o (x y z u v : V) : (F5 x y z u v).lookup ("total" : Str) = some z := by kernel_rfl
theorem lk5n (x y z u v : V) : (F5 x y z u v).lookup ("_numbers" : Str) = some u := by kernel_rfl
theorem lk5d (x y z u v : V) : (F5 x y z u v).lookup ("degrees" : Str) = some v := by kernel_rfl
def spGet (K : PySem.W.Frag) (C : Addr) : Sp := fun vs H Q _ => ∃ w p n T u v, vs = [.ref w, .ref p] ∧ WebAt K C H w n T ∧ SqT K H p [.int u, .int v] ∧ ∀ H', Same H H' → Q (.int ((look T u v).getD 0)) H'
/-- what x in web is worth -/
def PairIs (K : PySem.W.Frag) (H : Hp) (x : V) (n : Int) (T : List T3) (r : Bool) : Prop := ∃ t b, TyX K H x t ∧ ((PySem.W.kitOne K t (.type "tuple") = some false ∧ b = false) ∨ (PySem.W.kitOne K t (.type "tuple") = some true ∧ ∃ a xs, x = .ref a ∧ SqT K H a xs ∧
  ((xs.length ≠ 2 ∧ b = false) ∨ ∃ y z ty tz, xs = [y, z] ∧ AnyV K H y ty ∧ AnyV K H z tz ∧ b = pairB y z n))) ∧ (b = false → r = false) ∧ (b = true → ∃ a u v, x = .ref a ∧ SqT K H a [.int u, .int v] ∧ r = (look T u v).isSome)
def spCont (K : PySem.W.Frag) (C : Addr) : Sp := fun vs H Q _ => ∃ w x n T r, vs = [.ref w, x] ∧ WebAt K C H w n T ∧ PairIs K H x (n : Int) T r ∧ ∀ H', Same H H' → Q (.bl r) H'
theorem scGe : FnScope ["self", "at", "u", "v"] ["self", "at"] (defScope sGet) := ⟨rfl, rfl, rfl, by decide +kernel, rfl, by decide +kernel, by decide +kernel⟩
theorem scCo : FnScope ["self", "x"] ["self", "x"] (defScope sCont) := ⟨rfl, rfl, rfl, by decide +kernel, rfl, by decide +kernel, by decide +kernel⟩
section
variable {P : Program} {w : World} {K : PySem.W.Frag} {mg : Str → Option Value} {base : Heap}
theorem ok_get {C f : Addr} {fd : FuncData} {k : Nat} (F : Fun K "__getitem__" "Web.__getitem__" sGet f fd) (T : TxtW K mg C) : FnOk P w K mg base CX0 (k + 1) f fd ["self", "at"] (spGet K C) := by
  refine F.ok scGe (fun vs H Q E h => ?_) (fun cdv A outer s H vs Q E hr h => ?_)
  · obtain ⟨w, p, n, T, u, v, rfl, _⟩ := h
    rfl
  · obtain ⟨w, p, n, TT, u, v, rfl, hW, hp, q⟩ := h
    have hu := hu_of hr
    obtain ⟨dx, t, ys, d, g, h1, h2, h3, h4, h5⟩ := hW.ex
    refine ⟨_, pss_cons (ps_asg (pv 1) (pg_tup rfl (pgs_cons (pg_name (i := 2) scGe.nd rfl (Or.inl rfl)) (pgs_cons (pg_name (i := 3) scGe.nd rfl (Or.inl rfl)) pgs_nil))))
      (pss_cons (ps_if (pt_cmp (pc_din hu (pe_tup (pa_cons (pv 2) (pa_cons (pv 3) pa_nil))) (pe_fld (pv 0) rfl))) (pss_one (ps_ret (pe_dget hu (pe_fld (pv 0) rfl) (pe_tup (pa_cons (pv 2) (pa_cons (pv 3) pa_nil))) (fun _ _ => rfl)))) pss_nil)
      (pss_one (ps_ret pe_int))), ?_⟩
    refine ⟨.ref p, rfl, p, _, rfl, hp, rfl, _, _, rfl, _, _, rfl, rfl, ?_⟩
    refine ⟨_, rfl, _, rfl, (by show 2 ≤ sizeLine; decide), fun R nR => ?_⟩
    have s1 : Same H (upd H R (.tup [.int u, .int v])) := same_upd nR
    refine ⟨.ref w, rfl, w, C, dx, _, _, rfl, s1 _ _ h1, T.cl, T.n4, lk5n _ _ _ _ _, d, _, rfl, DGet.t (k := [.inl u, .inl v]) (s1 _ _ h4) upd_same, ?_⟩
    rw [valV_both]
    cases hl : look TT u v with
    | none =>
      rw [hl] at q
      exact ⟨_, rfl, q _ s1⟩
    | some m =>
      rw [hl] at q
      refine ⟨_, rfl, .ref w, rfl, w, C, dx, _, _, rfl, s1 _ _ h1, T.cl, T.n4, lk5n _ _ _ _ _, _, rfl, _, rfl, (by show 2 ≤ sizeLine; decide), fun R2 nR2 => ?_⟩
      have s2 : Same (upd H R (.tup [.int u, .int v])) (upd (upd H R (.tup [.int u, .int v])) R2 (.tup [.int u, .int v])) := same_upd nR2
      have e2 := DGet.t (k := [.inl u, .inl v]) (s2 _ _ (s1 _ _ h4)) (upd_same (H := upd H R (.tup [.int u, .int v])) (a := R2) (o := .tup [.int u, .int v]))
      rw [valV_both, hl] at e2
      exact ⟨d, _, rfl, e2, q _ (s1.trans s2)⟩
theorem ok_cont {C f fp : Addr} {fd fdp : FuncData} {k : Nat} (F : Fun K "__contains__" "Web.__contains__" sCont f fd) (T : TxtW K mg C) (GP : FnOk P w K mg base CX0 k fp fdp ["thing", "size"] (spPair K)) (gP : mg "_is_pair" = some (.ref fp)) (kP : PySem.W.keepIn K (.ref fp) = true)
    (bP : Binds K fdp ["thing", "size"] []) : FnOk P w K mg base CX0 (k + 1) f fd ["self", "x"] (spCont K C) := by
  refine F.ok scCo (fun vs H Q E h => ?_) (fun cdv A outer s H vs Q E hr h => ?_)
  · obtain ⟨w, x, n, T, r, rfl, _⟩ := h
    rfl
  · obtain ⟨w, x, n, TT, r, rfl, hW, ⟨t0, b, ty, hb, r0, r1⟩, q⟩ := h
    have hu := hu_of hr
    obtain ⟨dx, t, ys, d, g, h1, h2, h3, h4, h5⟩ := hW.ex
    refine ⟨_, pss_one (ps_ret (pe_and (pe_call GP hr rfl gP kP bP .nil pass0 (pa_cons (pv 1) (pa_cons (pe_fld (pv 0) rfl) pa_nil)))
      (pe_one (pe_cmp (pc_din hu (pe_tup (pa_cons (pe_ix ix_tup (pv 1) pe_int (fun _ _ => rfl)) (pa_cons (pe_ix ix_tup (pv 1) pe_int (fun _ _ => rfl)) pa_nil))) (pe_fld (pv 0) rfl)) rfl)))), ?_⟩
    refine ⟨x, rfl, .ref w, rfl, w, C, dx, _, _, rfl, h1, T.cl, T.n1, lk5s _ _ _ _ _, x, t0, (n : Int), b, rfl, ty, hb, b, rfl, ?_⟩
    cases b with
    | false => rw [r0 rfl] at q; exact q H (Same.refl H)
    | true =>
      obtain ⟨a, u, v, rfl, hS, rfl⟩ := r1 rfl
      have i0 : atI [V.int u, V.int v] 0 = some (.int u) := atI_nat (xs := [V.int u, V.int v]) (j := 0) rfl
      have i1 : atI [V.int u, V.int v] 1 = some (.int v) := atI_nat (xs := [V.int u, V.int v]) (j := 1) rfl
      refine ⟨.ref a, rfl, a, _, 0, _, rfl, rfl, hS, i0, .ref a, rfl, a, _, 1, _, rfl, rfl, hS, i1, (by show 2 ≤ sizeLine; decide), fun R nR => ?_⟩
      have s1 : Same H (upd H R (.tup [.int u, .int v])) := same_upd nR
      refine ⟨.ref w, rfl, w, C, dx, _, _, rfl, s1 _ _ h1, T.cl, T.n4, lk5n _ _ _ _ _, d, _, rfl, DGet.t (k := [.inl u, .inl v]) (s1 _ _ h4) upd_same, ?_⟩
      rw [valV_both]
      have e : ((look TT u v).map V.int).isSome = (look TT u v).isSome := by cases look TT u v <;> rfl
      rw [e]
      exact q _ s1
end
end T22
/-! web == any value. -/
namespace T22
open PySem PySem.Spec PyProof.Rows L2 Wk
abbrev sEq : Stmt := inClass (top 15) 4
def d3 (p : T3) : PyData := .tuple [.int p.1, .int p.2.1, .int p.2.2]
theorem eqv3 (p q : T3) : PyData.eqv (d3 p) (d3 q) = decide (p = q) := by
  have e : PyData.eqv (d3 p) (d3 q) = ((p.1 == q.1) && ((p.2.1 == q.2.1) && ((p.2.2 == q.2.2) && true))) := by
    unfold d3
    first | rfl | kernel_rfl | (rw [PyData.eqv, PyData.eqvAll, PyData.eqvAll, PyData.eqvAll, PyData.eqvAll, PyData.eqv, PyData.eqv, PyData.eqv])
  rw [e, Bool.eq_iff_iff]
  simp only [Bool.and_true, Bool.and_eq_true, beq_iff_eq, decide_eq_true_eq]
  constructor
  · rintro ⟨a, b, c⟩
    exact Prod.ext a (Prod.ext b c)
  · rintro rfl
    exact ⟨rfl, rfl, rfl⟩
theorem eqvT : ∀ (T S : List T3), PyData.eqvAll (T.map d3) (S.map d3) = decide (T = S)
  | [], [] => by simp [PyData.eqvAll]
  | [], _ :: _ => by simp [PyData.eqvAll]
  | _ :: _, [] => by simp [PyData.eqvAll]
  | p :: T, q :: S => by
    rw [List.map_cons, List.map_cons, PyData.eqvAll, eqv3, eqvT T S, Bool.eq_iff_iff]
    simp
theorem Trs.dp {K : PySem.W.Frag} {H : Hp} : ∀ {xs : List V} {ps : List T3}, Trs K H xs ps → DpAll K H xs (ps.map d3)
  | [], [], _ => .nil
  | _ :: _, _ :: _, h => by
    obtain ⟨⟨t, rfl, hS⟩, h2⟩ := h
    exact .cons (.tup hS (.cons (.int _) (.cons (.int _) (.cons (.int _) .nil)))) (Trs.dp h2)
  | [], _ :: _, h => h.elim
  | _ :: _, [], h => h.elim
theorem shapedT (T : List T3) : SeqAt.shaped (.tuple (T.map d3)) = true := by
  have h1 : ∀ T : List T3, PyData.canLayAll0 (T.map d3) = true := fun T => by
    induction T with
    | nil => simp [PyData.canLayAll0]
    | cons p T ih => rw [List.map_cons, PyData.canLayAll0, ih, d3]; simp [PyData.canLay0, PyData.canLayAll0]
  have h2 : ∀ T : List T3, PyData.depthAll (T.map d3) ≤ 1 := fun T => by
    induction T with
    | nil => simp [PyData.depthAll]
    | cons p T ih => rw [List.map_cons, PyData.depthAll, d3]; simp [PyData.depth, PyData.depthAll]; omega
  unfold SeqAt.shaped
  rw [PyData.canLay0, PyData.depth, h1, Bool.true_and]
  have := h2 T
  exact decide_eq_true (by omega)
theorem eqvTT (T S : List T3) : PyData.eqv (.tuple (T.map d3)) (.tuple (S.map d3)) = decide (T = S) := by rw [PyData.eqv, eqvT]
/-- the class as a kind -/
structure KindW (K : PySem.W.Frag) (mg : Str → Option Value) (C : Addr) : Prop where
  ty : ∀ (H : Hp) (a dx : Addr) (fs : List (Str × V)), H a = some (.ins C dx fs) → TyX K H (.ref a) (.ref C)
  own : PySem.W.kitOne K (.ref C) (.ref C) = some true
  gW : mg "Web" = some (.ref C)
  mi : mg "isinstance" = none
def spEqW (K : PySem.W.Frag) (C : Addr) : Sp := fun vs H Q _ => ∃ w n T y, vs = [.ref w, y] ∧ WebAt K C H w n T ∧ ((∃ t, TyX K H y t ∧ PySem.W.kitOne K t (.ref C) = some false ∧ Q (.bl false) H) ∨
  ∃ w2 n2 T2, y = .ref w2 ∧ WebAt K C H w2 n2 T2 ∧ Q (.bl (decide (n = n2) && decide (T = T2))) H)
theorem scEq : FnScope ["self", "other"] ["self", "other"] (defScope sEq) := ⟨rfl, rfl, rfl, by decide +kernel, rfl, by decide +kernel, by decide +kernel⟩
section
variable {P : Program} {w : World} {K : PySem.W.Frag} {mg : Str → Option Value} {base : Heap}
theorem ok_eq {C f : Addr} {fd : FuncData} {k : Nat} (F : Fun K "__eq__" "Web.__eq__" sEq f fd) (T : TxtW K mg C) (G : KindW K mg C) : FnOk P w K mg base CX0 (k + 1) f fd ["self", "other"] (spEqW K C) := by
  refine F.ok scEq (fun vs H Q E h => ?_) (fun cdv A outer s H vs Q E hr h => ?_)
  · obtain ⟨w, n, T, y, rfl, _⟩ := h
    rfl
  · obtain ⟨w, n, TT, y, rfl, hW, q⟩ := h
    obtain ⟨dx, t, ys, d, g, h1, h2, h3, h4, h5⟩ := hW.ex
    refine ⟨_, pss_one (ps_ret (pe_and (pe_callB call_isi (by rfl) G.mi (by decide +kernel) (pa_cons (pv 1) (pa_cons (pe_glob (v := .ref C) rfl G.gW rfl) pa_nil)))
      (pe_and (pe_cmpR op_eq (pe_fld (pv 0) rfl) (pe_fld (pv 1) rfl) (nomark _)) (pe_one (pe_cmpR (op_eqD hr.units) (pe_fld (pv 0) rfl) (pe_fld (pv 1) rfl) (nomark _)))))), ?_⟩
    rcases q with ⟨ty, hty, hk, q⟩ | ⟨w2, n2, T2, rfl, hW2, q⟩
    · exact ⟨y, rfl, y, _, _, _, _, rfl, .own C, hty, hk, false, rfl, q⟩
    · obtain ⟨dx2, t2, ys2, d2, g2, k1, k2, k3, k4, k5⟩ := hW2.ex
      refine ⟨_, rfl, _, _, _, _, _, rfl, .own C, G.ty _ _ _ _ k1, G.own, true, rfl, ?_⟩
      refine ⟨.ref w, rfl, w, C, dx, _, _, rfl, h1, T.cl, T.n1, lk5s _ _ _ _ _, .ref w2, rfl, w2, C, dx2, _, _, rfl, k1, T.cl, T.n1, lk5s _ _ _ _ _, rfl, decide (n = n2), ?_⟩
      have e : decide (V.int (n : Int) = V.int (n2 : Int)) = decide (n = n2) := by
        rw [Bool.eq_iff_iff]
        simp only [decide_eq_true_eq]
        constructor
        · intro z; injection z with z; omega
        · rintro rfl; rfl
      refine ⟨by rw [e], ?_⟩
      by_cases hn : n = n2
      · rw [decide_eq_true hn]
        rw [decide_eq_true hn, Bool.true_and] at q
        refine ⟨.ref w, rfl, w, C, dx, _, _, rfl, h1, T.cl, T.n2, lk5t _ _ _ _ _, .ref w2, rfl, w2, C, dx2, _, _, rfl, k1, T.cl, T.n2, lk5t _ _ _ _ _, _, _, .tup (.inl (.inl h2)) h3.dp, .tup (.inl (.inl k2)) k3.dp, shapedT _, shapedT _, ?_⟩
        rw [eqvTT]
        exact q
      · rw [decide_eq_false hn]
        rw [decide_eq_false hn, Bool.false_and] at q
        exact q
end
end T22
/-! The law's dict of sums, as a list of triples with different pairs. -/
namespace T22
open PySem PySem.Spec PyProof.Rows L2 Wk
/-- an entry of the dict -/
def ent (p : T3) : List Key × V := ([.inl p.1, .inl p.2.1], .int p.2.2)
/-- no pair twice -/
def Dif (S : List T3) : Prop := S.Pairwise fun p q => ¬ key p q
theorem ent_key {p : T3} {u v : Int} : ((ent p).1 = ([.inl u, .inl v] : List Key)) ↔ (p.1 = u ∧ p.2.1 = v) := by
  unfold ent
  constructor
  · intro e
    injection e with e1 e2
    injection e2 with e2 _
    exact ⟨by injection e1, by injection e2⟩
  · rintro ⟨rfl, rfl⟩; rfl
/-- what the dict holds at a pair -/
theorem valV_ent : ∀ {S : List T3} {u v : Int}, Dif S → valV (S.map ent) [.inl u, .inl v] = none ∧ (∀ p ∈ S, ¬ (p.1 = u ∧ p.2.1 = v)) ∨ valV (S.map ent) [.inl u, .inl v] = some (.int (amt S u v)) ∧ ∃ p ∈ S, p.1 = u ∧ p.2.1 = v
  | [], _, _, _ => .inl ⟨rfl, fun p hp => (by cases hp)⟩
  | p :: S, u, v, h => by
    obtain ⟨h1, h2⟩ := List.pairwise_cons.mp h
    have ih := valV_ent (u := u) (v := v) h2
    unfold valV at ih ⊢
    rw [List.map_cons]
    by_cases hk : p.1 = u ∧ p.2.1 = v
    · refine .inr ⟨?_, p, List.mem_cons_self, hk⟩
      rw [List.find?_cons_of_pos (by simpa using ent_key.mpr hk), amt_cons, if_pos hk, amt_zero fun q hq k => h1 q hq ⟨hk.1.trans k.1.symm, hk.2.trans k.2.symm⟩, Int.add_zero]
      rfl
    · rw [List.find?_cons_of_neg (by simpa using fun e => hk (ent_key.mp e)), amt_cons, if_neg hk, Int.zero_add]
      rcases ih with ⟨a, b⟩ | ⟨a, q, hq, b⟩
      · refine .inl ⟨a, fun q hq => ?_⟩
        rcases List.mem_cons.mp hq with rfl | hq
        · exact hk
        · exact b q hq
      · exact .inr ⟨a, q, List.mem_cons_of_mem _ hq, b⟩
theorem get_ent {S : List T3} {u v : Int} (h : Dif S) : (valV (S.map ent) [.inl u, .inl v]).getD (.int 0) = .int (amt S u v) := by
  rcases valV_ent (u := u) (v := v) h with ⟨a, b⟩ | ⟨a, _⟩
  · rw [a, amt_zero b]; rfl
  · rw [a]; rfl
/-- one number more at a pair -/
def setS (S : List T3) (u v c : Int) : List T3 :=
  if (S.any fun q => decide (q.1 = u ∧ q.2.1 = v)) = true then S.map fun q => if q.1 = u ∧ q.2.1 = v then (u, v, c) else q else S ++ [(u, v, c)]
theorem put_ent {S : List T3} {u v c : Int} : putK (S.map ent) [.inl u, .inl v] (.int c) = (setS S u v c).map ent := by
  unfold putK setS
  have e : ((S.map ent).any fun kv => decide (kv.1 = ([.inl u, .inl v] : List Key))) = S.any fun q => decide (q.1 = u ∧ q.2.1 = v) := by
    rw [List.any_map]
    congr 1
    funext q
    exact decide_eq_decide.mpr ent_key
  rw [e]
  split
  · rw [List.map_map, List.map_map]
    refine List.map_congr_left fun q _ => ?_
    show (if (ent q).1 = ([.inl u, .inl v] : List Key) then ((ent q).1, V.int c) else ent q) = ent (if q.1 = u ∧ q.2.1 = v then (u, v, c) else q)
    by_cases hk : q.1 = u ∧ q.2.1 = v
    · rw [if_pos hk, if_pos (ent_key.mpr hk), ent_key.mpr hk]
      rfl
    · rw [if_neg hk, if_neg fun z => hk (ent_key.mp z)]
  · rw [List.map_append]
    rfl
theorem setS_mem {S : List T3} {u v c : Int} {p : T3} (hp : p ∈ setS S u v c) : p ∈ S ∨ p = (u, v, c) := by
  unfold setS at hp
  split at hp
  · obtain ⟨q, hq, rfl⟩ := List.mem_map.mp hp
    split
    · exact .inr rfl
    · exact .inl hq
  · rcases List.mem_append.mp hp with h | h
    · exact .inl h
    · exact .inr (List.mem_singleton.mp h)
theorem setS_dif {S : List T3} {u v c : Int} (h : Dif S) : Dif (setS S u v c) := by
  unfold setS
  split
  · refine List.pairwise_map.mpr (h.imp fun {p q} hpq => ?_)
    unfold key at *
    split <;> split <;> ((try dsimp only) <;> omega)
  · rename_i hn
    refine List.pairwise_append.mpr ⟨h, List.pairwise_singleton .., fun p hp q hq k => hn ?_⟩
    cases List.mem_singleton.mp hq
    exact List.any_eq_true.mpr ⟨p, hp, by simpa [key] using k⟩
theorem setS_amt : ∀ {S : List T3} {u v c : Int}, Dif S → ∀ a b, amt (setS S u v c) a b = if a = u ∧ b = v then c else amt S a b := by
  intro S u v c h a b
  have one : amt [(u, v, c)] a b = if a = u ∧ b = v then c else 0 := by
    rw [amt_cons, amt_nil]
    dsimp only
    by_cases hk : a = u ∧ b = v
    · rw [if_pos hk, if_pos ⟨hk.1.symm, hk.2.symm⟩, Int.add_zero]
    · rw [if_neg hk, if_neg fun z => hk ⟨z.1.symm, z.2.symm⟩, Int.add_zero]
  unfold setS
  split
  · rename_i he
    obtain ⟨q0, hq0, k0⟩ := List.any_eq_true.mp he
    have k0 : q0.1 = u ∧ q0.2.1 = v := by simpa using k0
    induction S with
    | nil => cases hq0
    | cons p S ih =>
      obtain ⟨h1, h2⟩ := List.pairwise_cons.mp h
      rw [List.map_cons, amt_cons, amt_cons]
      by_cases hp : p.1 = u ∧ p.2.1 = v
      · have rest : S.map (fun q => if q.1 = u ∧ q.2.1 = v then (u, v, c) else q) = S := by
          have : S.map (fun q => if q.1 = u ∧ q.2.1 = v then (u, v, c) else q) = S.map id := List.map_congr_left fun q hq => if_neg fun k => h1 q hq ⟨hp.1.trans k.1.symm, hp.2.trans k.2.symm⟩
          rw [this, List.map_id]
        rw [rest, if_pos hp]
        dsimp only
        by_cases hk : a = u ∧ b = v
        · rw [if_pos hk, if_pos ⟨hk.1.symm, hk.2.symm⟩, amt_zero fun q hq k => h1 q hq ⟨hp.1.trans (hk.1.symm.trans k.1.symm), hp.2.trans (hk.2.symm.trans k.2.symm)⟩, Int.add_zero]
        · rw [if_neg hk, if_neg fun z => hk ⟨z.1.symm, z.2.symm⟩, if_neg fun z => hk ⟨z.1.symm.trans hp.1, z.2.symm.trans hp.2⟩]
      · have hm : q0 ∈ S := by
          rcases List.mem_cons.mp hq0 with rfl | h
          · exact absurd k0 hp
          · exact h
        have ih := ih h2 (List.any_eq_true.mpr ⟨q0, hm, by simpa using k0⟩) hm
        rw [if_neg hp, ih]
        by_cases hk : a = u ∧ b = v
        · rw [if_pos hk, if_neg fun z => hp ⟨z.1.trans hk.1, z.2.trans hk.2⟩, Int.zero_add, if_pos hk]
        · rw [if_neg hk, if_neg hk]
  · rename_i hn
    rw [amt_append, one]
    by_cases hk : a = u ∧ b = v
    · rw [if_pos hk, if_pos hk, amt_zero fun q hq k => hn (List.any_eq_true.mpr ⟨q, hq, by simpa using ⟨k.1.trans hk.1, k.2.trans hk.2⟩⟩), Int.zero_add]
    · rw [if_neg hk, if_neg hk, Int.add_zero]
theorem setS_length {S : List T3} {u v c : Int} : (setS S u v c).length ≤ S.length + 1 := by
  unfold setS
  split
  · rw [List.length_map]; omega
  · rw [List.length_append, List.length_singleton]; omega
/-- the sums of a list of normal triples -/
structure SumsOf (l S : List T3) : Prop where
  dif : Dif S
  am : ∀ u v, amt S u v = amt l u v
  mem : ∀ p ∈ S, ∃ q ∈ l, key q p
  len : S.length ≤ l.length
theorem SumsOf.nil : SumsOf [] [] := ⟨.nil, fun _ _ => rfl, fun p hp => (by cases hp), Nat.le_refl _⟩
theorem SumsOf.put {l S : List T3} {p : T3} (h : SumsOf l S) : SumsOf (l ++ [p]) (setS S p.1 p.2.1 (amt S p.1 p.2.1 + p.2.2)) := by
  refine ⟨setS_dif h.dif, fun u v => ?_, fun q hq => ?_, ?_⟩
  · rw [setS_amt h.dif, amt_append, amt_cons, amt_nil, ← h.am]
    by_cases hk : u = p.1 ∧ v = p.2.1
    · rw [if_pos hk, if_pos ⟨hk.1.symm, hk.2.symm⟩, hk.1, hk.2, Int.add_zero]
    · rw [if_neg hk, if_neg fun z => hk ⟨z.1.symm, z.2.symm⟩, Int.add_zero, Int.add_zero]
  · rcases setS_mem hq with hq | rfl
    · obtain ⟨r, hr, k⟩ := h.mem q hq
      exact ⟨r, by simp [hr], k⟩
    · exact ⟨p, by simp, rfl, rfl⟩
  · have := setS_length (S := S) (u := p.1) (v := p.2.1) (c := amt S p.1 p.2.1 + p.2.2)
    have := h.len
    rw [List.length_append, List.length_singleton]
    omega
end T22
/-! The law's sums of items. -/
namespace T22
open PySem PySem.Spec PyProof.Rows L2 Wk
abbrev sSums : Stmt := top 29
def spSums (K : PySem.W.Frag) : Sp := fun vs H Q _ => ∃ a xs ps, vs = [.ref a] ∧ H a = some (.lst xs) ∧ Trs K H xs ps ∧ ps.length ≤ 1000 ∧ ∀ H' d S, Same H H' → H d = none → H' d = some (.dT (S.map ent)) → SumsOf (ps.map norm) S → Q (.ref d) H'
theorem scSu : FnScope ["_law_items_here", "_law_sums_here", "_law_u", "_law_v", "_law_number", "_law_pair"] ["_law_items_here"] (defScope sSums) := ⟨rfl, rfl, rfl, by decide +kernel, rfl, by decide +kernel, by decide +kernel⟩
theorem SqT.butT {K : PySem.W.Frag} {H H' : Hp} {D t : Addr} {kvs : List (List Key × V)} {xs : List V} (hD : H D = some (.dT kvs)) (h : SqT K H t xs) (b : But D H H') : SqT K H' t xs := by
  rcases h with (h | ⟨o, h⟩) | h
  · exact .inl (.inl (b t _ (fun e => by rw [e, hD] at h; cases h) h))
  · exact .inl (.inr ⟨o, b t _ (fun e => by rw [e, hD] at h; cases h) h⟩)
  · exact .inr h
theorem SqL.butT {K : PySem.W.Frag} {H H' : Hp} {D t : Addr} {kvs : List (List Key × V)} {xs : List V} (hD : H D = some (.dT kvs)) (h : SqL K H t xs) (b : But D H H') : SqL K H' t xs := by
  rcases h with (h | ⟨o, h⟩) | h
  · exact .inl (.inl (b t _ (fun e => by rw [e, hD] at h; cases h) h))
  · exact .inl (.inr ⟨o, b t _ (fun e => by rw [e, hD] at h; cases h) h⟩)
  · exact .inr h
theorem Trs.butT {K : PySem.W.Frag} {H H' : Hp} {D : Addr} {kvs : List (List Key × V)} (hD : H D = some (.dT kvs)) (b : But D H H') : ∀ {xs : List V} {ps : List T3}, Trs K H xs ps → Trs K H' xs ps
  | [], [], _ => True.intro
  | _ :: _, _ :: _, h => ⟨let ⟨t, e, q⟩ := h.1; ⟨t, e, SqT.butT hD q b⟩, Trs.butT hD b h.2⟩
  | [], _ :: _, h => h.elim
  | _ :: _, [], h => h.elim
section
variable {P : Program} {w : World} {K : PySem.W.Frag} {mg : Str → Option Value} {base : Heap}
theorem ok_sums {f : Addr} {fd : FuncData} {k : Nat} (F : Fun K "_law_sums" "_law_sums" sSums f fd) (mi : mg "min" = none) (mx : mg "max" = none) : FnOk P w K mg base CX0 (k + 1) f fd ["_law_items_here"] (spSums K) := by
  refine F.ok scSu (fun vs H Q E h => ?_) (fun cdv A outer s H vs Q E hr h => ?_)
  · obtain ⟨a, xs, ps, rfl, _⟩ := h
    rfl
  · obtain ⟨a, xs, ps, rfl, hS, hT, hl, q⟩ := h
    have hu := hu_of hr
    refine ⟨_, pss_cons (ps_set (i := 1) scSu.nd rfl (Or.inl rfl) pe_dnewT)
      (pss_cons (ps_for PassesOwn.never rfl (pi_list (pv 0)) (pg_tup rfl (pgs_cons (pg_name (i := 2) scSu.nd rfl (Or.inl rfl)) (pgs_cons (pg_name (i := 3) scSu.nd rfl (Or.inl rfl)) (pgs_cons (pg_name (i := 4) scSu.nd rfl (Or.inl rfl)) pgs_nil))))
        (pss_cons (ps_set (i := 5) scSu.nd rfl (Or.inl rfl) (pe_tup (pa_cons (pe_callB (call_min2 rfl) (by rfl) mi (by decide +kernel) (pa_cons (pv 2) (pa_cons (pv 3) pa_nil))) (pa_cons (pe_callB (call_max2 rfl) (by rfl) mx (by decide +kernel) (pa_cons (pv 2) (pa_cons (pv 3) pa_nil))) pa_nil))))
        (pss_one (ps_dput hu (pv 1) (pv 5) (pe_op op_add (pe_dget2 hu (pv 1) (pv 5) pe_int ⟨rfl, rfl, rfl, rfl⟩) (pv 4)) rfl))))
      (pss_one (ps_ret (pv 1)))), ?_⟩
    intro D nD
    have s1 : Same H (upd H D (.dT [])) := same_upd nD
    have hT1 := hT.same s1
    have haD : a ≠ D := ne_of_none hS nD
    have hxl : xs.length = ps.length := hT.length
    refine ⟨_, rfl, a, rfl, ⟨xs, .inl (.inl (s1 _ _ hS))⟩, ?_⟩
    refine for_list (K := K) (a := a) (xs := xs) (fun i σ H2 => (∃ v2 v3 v4 v5, σ = [some (.ref a), some (.ref D), v2, v3, v4, v5]) ∧ But D (upd H D (.dT [])) H2 ∧ ∃ S, H2 D = some (.dT (S.map ent)) ∧ SumsOf ((ps.take i).map norm) S) ?_ (fun i σ H2 _ p => .inl (.inl (p.2.1 _ _ haD (s1 _ _ hS)))) ?_ ?_
    · exact ⟨⟨_, _, _, _, rfl⟩, But.refl _ _, [], upd_same, SumsOf.nil⟩
    · rintro i x σ H2 hx ⟨⟨v2, v3, v4, v5, rfl⟩, bt, S, hD, hSm⟩
      obtain ⟨p, hp, t, rfl, hSt⟩ := (Trs.butT upd_same bt hT1).get hx
      have hi : i < 1000 := by have := (List.getElem?_eq_some_iff.mp hp).1; omega
      refine ⟨t, _, rfl, hSt, rfl, _, _, rfl, _, _, rfl, _, _, rfl, rfl, ?_⟩
      refine ⟨_, rfl, _, rfl, p.1, p.2.1, rfl, _, rfl, _, rfl, p.1, p.2.1, rfl, (by show 2 ≤ sizeLine; decide), fun R nR => ?_⟩
      have sR := same_upd (o := .tup [.int (norm p).1, .int (norm p).2.1]) nR
      have hD2 := sR _ _ hD
      have hR : (upd H2 R (.tup [.int (norm p).1, .int (norm p).2.1])) R = some (.tup (([.inl (norm p).1, .inl (norm p).2.1] : List Key).map kV)) := upd_same
      refine ⟨_, rfl, D, rfl, .inr ⟨_, .inl hD2⟩, _, rfl, _, DGet.t hD2 hR, _, rfl, amt S (norm p).1 (norm p).2.1, p.2.2, get_ent hSm.dif, rfl, ?_⟩
      have hl : (S.map ent).length < sizeLine := by
        have := hSm.len
        rw [List.length_map, List.length_take] at this
        rw [List.length_map, sizeLine_eq]
        omega
      refine ⟨_, rfl, _, rfl, D, _, rfl, DPut.t hD2 hR hl, ⟨_, _, _, _, rfl⟩, bt.trans ((But.of sR).trans (But.upd _ _ _)), _, by rw [upd_same, put_ent], ?_⟩
      rw [List.take_add_one, hp, List.map_append]
      exact hSm.put (p := norm p)
    · rintro σ H2 ⟨⟨v2, v3, v4, v5, rfl⟩, bt, S, hD, hSm⟩
      rw [hxl, List.take_length] at hSm
      exact ⟨_, rfl, q H2 D S (fun b o z => bt b o (ne_of_none z nD) (s1 _ _ z)) nD hD hSm⟩
end
end T22
/-! The law's items of ties. -/
namespace T22
open PySem PySem.Spec PyProof.Rows L2 Wk
abbrev sItems : Stmt := top 28
def spItems (K : PySem.W.Frag) : Sp := fun vs H Q _ => ∃ (b l : Addr) (c n m : Nat), vs = [.ref b, .int (n : Int), .int (m : Int)] ∧ BagAt H b l c ∧ c + 5 * m ≤ 999000 ∧ n ≤ 60 ∧ m ≤ 60 ∧
  ∀ H' a xs ps, BagAt H' b l (c + 5 * m) → But b H H' → H a = none → H' a = some (.lst xs) → Trs K H' xs ps → ps.length ≤ m → (∀ p ∈ ps, tieB p.1 p.2.1 p.2.2 (n : Int) = true) → (∀ u v, amt (ps.map norm) u v ≤ 1000000000) → Q (.ref a) H'
theorem scIt : FnScope ["_law_bag_here", "_law_size", "_law_many", "_law_found", "_law_sums_here", "_law_k", "_law_u", "_law_step", "_law_mode", "_law_v", "_law_number", "_law_pair"] ["_law_bag_here", "_law_size", "_law_many"] (defScope sItems) := ⟨rfl, rfl, rfl, by decide +kernel, rfl, by decide +kernel, by decide +kernel⟩
theorem BagAt.put {H : Hp} {b l F : Addr} {o : HO} {n : Nat} (B : BagAt H b l n) (h1 : F ≠ b) (h2 : F ≠ l) : BagAt (upd H F o) b l n := by
  obtain ⟨x0, x1, x2, cs, g1, g2, g3⟩ := B.ex
  exact ⟨x0, x1, x2, cs, by rw [upd_ne (Ne.symm h1)]; exact g1, by rw [upd_ne (Ne.symm h2)]; exact g2, g3⟩
theorem BagAt.in' {H : Hp} {b l : Addr} {n : Nat} (B : BagAt H b l n) : (∃ xs, H b = some (.lst xs)) ∧ ∃ xs, H l = some (.lst xs) := by
  obtain ⟨x0, x1, x2, cs, g1, g2, g3⟩ := B.ex
  exact ⟨⟨_, g1⟩, _, g2⟩
section
variable {P : Program} {w : World} {K : PySem.W.Frag} {mg : Str → Option Value} {base : Heap}
theorem ok_items {f ft : Addr} {fd fdt : FuncData} {k : Nat} (F : Fun K "_law_items" "_law_items" sItems f fd) (GT : FnOk P w K mg base CX0 k ft fdt ["_law_bag_here", "_law_many"] spTake) (gT : mg "_law_take" = some (.ref ft)) (kT : PySem.W.keepIn K (.ref ft) = true)
    (bT : Binds K fdt ["_law_bag_here", "_law_many"] []) (mi : mg "min" = none) (mx : mg "max" = none) (mr : mg "range" = none) (mn : mg "int" = none) : FnOk P w K mg base CX0 (k + 1) f fd ["_law_bag_here", "_law_size", "_law_many"] (spItems K) := by
  refine F.ok scIt (fun vs H Q E h => ?_) (fun cdv A outer s H vs Q E hr h => ?_)
  · obtain ⟨b, l, c, n, m, rfl, _⟩ := h
    rfl
  · obtain ⟨b, l, c, n, m, rfl, B, hc, hn, hm, q⟩ := h
    have hu := hu_of hr
    refine ⟨_, pss_cons (ps_par (i := 3) (j := 4) (by rfl) scIt.nd rfl rfl (by decide) rfl rfl (pa_cons (pe_lst pa_nil) (pa_cons pe_dnewT pa_nil)) (by rfl))
      (pss_cons (ps_for PassesOwn.never rfl (pi_range1 (by rfl) mr (pa_cons (pe_ifExp (pt_cmpR op_gt (pv 1) pe_int (nomark _)) (pv 2) pe_int) pa_nil)) (pg_name (i := 5) scIt.nd rfl (Or.inl rfl))
        (pss_cons (ps_par3 (i := 6) (j := 7) (l := 8) (by rfl) scIt.nd rfl rfl rfl (by decide) (by decide) (by decide) rfl rfl rfl
            (pa_cons (pe_call GT hr rfl gT kT bT .nil pass0 (pa_cons (pv 0) (pa_cons (pv 1) pa_nil))) (pa_cons (pe_op op_add pe_int (pe_call GT hr rfl gT kT bT .nil pass0 (pa_cons (pv 0) (pa_cons (pe_op op_sub (pv 1) pe_int) pa_nil))))
              (pa_cons (pe_call GT hr rfl gT kT bT .nil pass0 (pa_cons (pv 0) (pa_cons pe_int pa_nil))) pa_nil))) (by rfl))
        (pss_cons (ps_set (i := 9) scIt.nd rfl (Or.inl rfl) (pe_op op_mod (pe_callTy call_int1 (by rfl) mn (by decide +kernel) (pa_cons (pe_op op_add (pv 6) (pv 7)) pa_nil)) (pv 1)))
        (pss_cons (ps_set (i := 10) scIt.nd rfl (Or.inl rfl) (pe_ix ix_list (pe_lst (pa_cons pe_int (pa_cons pe_int (pa_cons pe_int (pa_cons pe_int (pa_cons pe_int (pa_cons (pe_call GT hr rfl gT kT bT .nil pass0 (pa_cons (pv 0) (pa_cons pe_int pa_nil)))
            (pa_cons (pe_call GT hr rfl gT kT bT .nil pass0 (pa_cons (pv 0) (pa_cons pe_int pa_nil))) (pa_cons pe_int pa_nil))))))))) (pv 8) (fun _ _ => rfl)))
        (pss_cons (ps_set (i := 11) scIt.nd rfl (Or.inl rfl) (pe_tup (pa_cons (pe_callB (call_min2 rfl) (by rfl) mi (by decide +kernel) (pa_cons (pv 6) (pa_cons (pv 9) pa_nil))) (pa_cons (pe_callB (call_max2 rfl) (by rfl) mx (by decide +kernel) (pa_cons (pv 6) (pa_cons (pv 9) pa_nil))) pa_nil))))
        (pss_one (ps_if (pt_cmpR op_le (pe_op op_add (pe_dget2 hu (pv 4) (pv 11) pe_int ⟨rfl, rfl, rfl, rfl⟩) (pv 10)) pe_int (nomark _))
          (pss_cons (ps_dput hu (pv 4) (pv 11) (pe_op op_add (pe_dget2 hu (pv 4) (pv 11) pe_int ⟨rfl, rfl, rfl, rfl⟩) (pv 10)) rfl)
          (pss_one (ps_expr (pe_bm PySem.F.plainAttrs_list PySem.F.slot_list_append PySem.F.type_list_append mt_append (pv 3) (pa_cons (pe_tup (pa_cons (pv 6) (pa_cons (pv 9) (pa_cons (pv 10) pa_nil)))) pa_nil))))) pss_nil)))))))
      (pss_one (ps_ret (pv 3)))), ?_⟩
    obtain ⟨⟨xb, hb⟩, xl, hl⟩ := B.in'
    refine ⟨(by show 0 ≤ sizeLine; decide), fun F nF D nD => ⟨_, _, rfl, ?_⟩⟩
    have s1 : Same H (upd H F (.lst [])) := same_upd nF
    have s2 : Same (upd H F (.lst [])) (upd (upd H F (.lst [])) D (.dT [])) := same_upd nD
    have nD0 : H D = none := Same.free s1 nD
    have hFD : F ≠ D := ne_of_none upd_same nD
    have hFb : F ≠ b := Ne.symm (ne_of_none hb nF)
    have hFl : F ≠ l := Ne.symm (ne_of_none hl nF)
    have hDb : D ≠ b := Ne.symm (ne_of_none hb nD0)
    have hDl : D ≠ l := Ne.symm (ne_of_none hl nD0)
    have B1 := B.same (s1.trans s2)
    have f1 : (upd (upd H F (.lst [])) D (.dT [])) F = some (.lst []) := by rw [upd_ne hFD]; exact upd_same
    have d1 : (upd (upd H F (.lst [])) D (.dT [])) D = some (.dT []) := upd_same
    have b1 : But b H (upd (upd H F (.lst [])) D (.dT [])) := But.of (s1.trans s2)
    generalize upd (upd H F (.lst [])) D (.dT []) = H1 at B1 f1 d1 b1 ⊢
    clear s1 s2
    refine ⟨_, rfl, _, _, rfl, rfl, _, rfl, ?_⟩
    refine ite2 (fun hc => ?_) (fun hc => ?_)
    · have hn1 : (1 : Int) < n := by simpa using hc
      refine ⟨.int m, rfl, (m : Int), rfl, by omega, by omega, ?_⟩
      rw [Int.toNat_natCast]
      refine for_it walk_range (fun i σ H2 => (∃ v5 v6 v7 v8 v9 v10 v11, σ = [some (.ref b), some (.int (n : Int)), some (.int (m : Int)), some (.ref F), some (.ref D), v5, v6, v7, v8, v9, v10, v11]) ∧ BagAt H2 b l (c + 5 * i) ∧ But b H H2 ∧
        ∃ xs ps S, H2 F = some (.lst xs) ∧ H2 D = some (.dT (S.map ent)) ∧ Trs K H2 xs ps ∧ ps.length ≤ i ∧ (∀ p ∈ ps, tieB p.1 p.2.1 p.2.2 (n : Int) = true) ∧ SumsOf (ps.map norm) S ∧ ∀ u v, amt (ps.map norm) u v ≤ 1000000000) ?_ (fun _ _ _ _ _ => True.intro) ?_ ?_
      · exact ⟨⟨_, _, _, _, _, _, _, rfl⟩, B1, b1, [], [], [], f1, d1, True.intro, Nat.le_refl _, fun p hp => (by cases hp), SumsOf.nil, fun u v => by show (0 : Int) ≤ _; decide⟩
      · rintro i x σ H2 H3 hi ⟨⟨v5, v6, v7, v8, v9, v10, v11, rfl⟩, B2, b2, xs, ps, S, hF, hD, hT, hpl, hv, hS, ham⟩ ⟨rfl, rfl⟩
        obtain ⟨⟨xb2, hb2⟩, _⟩ := B2.in'
        refine ⟨_, rfl, _, rfl, b, l, (n : Int), _, rfl, by omega, by omega, B2, by omega, fun u H4 u0 u1 B4 b4 => ?_⟩
        refine ⟨_, rfl, _, rfl, (n : Int), 1, rfl, rfl, b, l, (n : Int) - 1, _, rfl, by omega, by omega, B4, by omega, fun st H5 st0 st1 B5 b5 => ⟨1, st, rfl, rfl, ?_⟩⟩
        refine ⟨_, rfl, b, l, 8, _, rfl, by decide, by decide, B5, by omega, fun md H6 m0 m1 B6 b6 => ⟨_, _, _, rfl, ?_⟩⟩
        refine ⟨_, rfl, _, rfl, u, 1 + st, rfl, rfl, .inl ⟨_, rfl, _, rfl, _, _, rfl, rfl, (by omega), ?_⟩⟩
        refine ⟨_, rfl, b, l, 20, _, rfl, by decide, by decide, B6, by omega, fun a1 H7 a10 a11 B7 b7 => ?_⟩
        refine ⟨_, rfl, b, l, 1000000001, _, rfl, by decide, by decide, B7, by omega, fun a2 H8 a20 a21 B8 b8 => ⟨(by show 8 ≤ sizeLine; decide), fun L nL => ?_⟩⟩
        have hnum : ∃ z : Int, 0 ≤ z ∧ z ≤ 1000000000 ∧ atI [V.int 0, V.int 1, V.int 2, V.int 3, V.int 1, V.int a1, V.int a2, V.int 1000000000] md = some (.int z) := by
          have : md = 0 ∨ md = 1 ∨ md = 2 ∨ md = 3 ∨ md = 4 ∨ md = 5 ∨ md = 6 ∨ md = 7 := by omega
          rcases this with rfl | rfl | rfl | rfl | rfl | rfl | rfl | rfl
          · exact ⟨0, by omega, by omega, atI_nat (j := 0) rfl⟩
          · exact ⟨1, by omega, by omega, atI_nat (j := 1) rfl⟩
          · exact ⟨2, by omega, by omega, atI_nat (j := 2) rfl⟩
          · exact ⟨3, by omega, by omega, atI_nat (j := 3) rfl⟩
          · exact ⟨1, by omega, by omega, atI_nat (j := 4) rfl⟩
          · exact ⟨a1, by omega, by omega, atI_nat (j := 5) rfl⟩
          · exact ⟨a2, by omega, by omega, atI_nat (j := 6) rfl⟩
          · exact ⟨1000000000, by omega, by omega, atI_nat (j := 7) rfl⟩
        obtain ⟨z, z0, z1, hz⟩ := hnum
        refine ⟨_, rfl, L, _, md, _, rfl, rfl, .inl (.inl upd_same), hz, ?_⟩
        have hvv : (u + (1 + st)) % (n : Int) = (u + (1 + st)) % (n : Int) := rfl
        have v0 : 0 ≤ (u + (1 + st)) % (n : Int) := Int.emod_nonneg _ (by omega)
        have v1 : (u + (1 + st)) % (n : Int) < n := Int.emod_lt_of_pos _ (by omega)
        have uv : u ≠ (u + (1 + st)) % (n : Int) := by
          intro e
          have h1 := Int.emod_add_mul_ediv (u + (1 + st)) (n : Int)
          rw [← e] at h1
          generalize (u + (1 + st)) / (n : Int) = qq at h1
          have h2 : (n : Int) * qq = 1 + st := by omega
          have : qq ≤ 0 ∨ 1 ≤ qq := by omega
          rcases this with h | h
          · have := Int.mul_nonpos_of_nonneg_of_nonpos (show (0 : Int) ≤ n by omega) h
            omega
          · have := Int.mul_le_mul_of_nonneg_left h (show (0 : Int) ≤ n by omega)
            omega
        have sL := same_upd (o := .lst [V.int 0, V.int 1, V.int 2, V.int 3, V.int 1, V.int a1, V.int a2, V.int 1000000000]) nL
        have bb : But b H3 (upd H8 L (.lst [V.int 0, V.int 1, V.int 2, V.int 3, V.int 1, V.int a1, V.int a2, V.int 1000000000])) := b4.trans (b5.trans (b6.trans (b7.trans (b8.trans (But.of sL)))))
        have B9 := B8.same sL
        generalize upd H8 L (.lst [V.int 0, V.int 1, V.int 2, V.int 3, V.int 1, V.int a1, V.int a2, V.int 1000000000]) = H9 at bb B9 ⊢
        refine ⟨_, rfl, _, rfl, u, _, rfl, _, rfl, _, rfl, u, _, rfl, (by show 2 ≤ sizeLine; decide), fun R nR => ?_⟩
        have sR := same_upd (o := .tup [.int (norm (u, ((u + (1 + st)) % (n : Int)), z)).1, .int (norm (u, ((u + (1 + st)) % (n : Int)), z)).2.1]) nR
        have hR : (upd H9 R (.tup [.int (norm (u, ((u + (1 + st)) % (n : Int)), z)).1, .int (norm (u, ((u + (1 + st)) % (n : Int)), z)).2.1])) R = some (.tup (([.inl (norm (u, ((u + (1 + st)) % (n : Int)), z)).1, .inl (norm (u, ((u + (1 + st)) % (n : Int)), z)).2.1] : List Key).map kV)) := upd_same
        have B10 := B9.same sR
        have bR := bb.trans (But.of sR)
        have hD10 := bR _ _ hDb hD
        have hF10 := bR _ _ hFb hF
        have hT10 := Trs.but hb2 bR hT
        have hRD : R ≠ D := fun e => by rw [e] at nR; have := bb _ _ hDb hD; rw [nR] at this; cases this
        have hRF : R ≠ F := fun e => by rw [e] at nR; have := bb _ _ hFb hF; rw [nR] at this; cases this
        have fwd : ∀ H', H' = upd H9 R (.tup [.int (norm (u, ((u + (1 + st)) % (n : Int)), z)).1, .int (norm (u, ((u + (1 + st)) % (n : Int)), z)).2.1]) → True := fun _ _ => True.intro
        have hbad : 5 * (i + 1) = 5 * i + 5 := by omega
        have hlS : S.length ≤ 60 := by have := hS.len; rw [List.length_map] at this; omega
        refine ⟨_, rfl, D, rfl, .inr ⟨_, .inl hD10⟩, _, rfl, _, DGet.t hD10 hR, _, rfl, amt S (norm (u, ((u + (1 + st)) % (n : Int)), z)).1 (norm (u, ((u + (1 + st)) % (n : Int)), z)).2.1, z, get_ent hS.dif, rfl, _, _, rfl, rfl, _, rfl, ?_⟩
        refine ite2 (fun hle => ?_) (fun hle => ?_)
        · have hle' : amt S (norm (u, ((u + (1 + st)) % (n : Int)), z)).1 (norm (u, ((u + (1 + st)) % (n : Int)), z)).2.1 + z ≤ 1000000000 := by simpa using hle
          have hl2 : (S.map ent).length < sizeLine := by rw [List.length_map, sizeLine_eq]; omega
          refine ⟨_, rfl, D, rfl, .inr ⟨_, .inl hD10⟩, _, rfl, _, DGet.t hD10 hR, _, rfl, amt S (norm (u, ((u + (1 + st)) % (n : Int)), z)).1 (norm (u, ((u + (1 + st)) % (n : Int)), z)).2.1, z, get_ent hS.dif, rfl, _, rfl, _, rfl, D, _, rfl, DPut.t hD10 hR hl2, ?_⟩
          rw [put_ent]
          have e11 : (upd (upd H9 R (.tup [.int (norm (u, ((u + (1 + st)) % (n : Int)), z)).1, .int (norm (u, ((u + (1 + st)) % (n : Int)), z)).2.1])) D (.dT ((setS S (norm (u, ((u + (1 + st)) % (n : Int)), z)).1 (norm (u, ((u + (1 + st)) % (n : Int)), z)).2.1 (amt S (norm (u, ((u + (1 + st)) % (n : Int)), z)).1 (norm (u, ((u + (1 + st)) % (n : Int)), z)).2.1 + z)).map ent))) F = some (.lst xs) := by rw [upd_ne hFD]; exact hF10
          have c11 : But D (upd H9 R (.tup [.int (norm (u, ((u + (1 + st)) % (n : Int)), z)).1, .int (norm (u, ((u + (1 + st)) % (n : Int)), z)).2.1])) (upd (upd H9 R (.tup [.int (norm (u, ((u + (1 + st)) % (n : Int)), z)).1, .int (norm (u, ((u + (1 + st)) % (n : Int)), z)).2.1])) D (.dT ((setS S (norm (u, ((u + (1 + st)) % (n : Int)), z)).1 (norm (u, ((u + (1 + st)) % (n : Int)), z)).2.1 (amt S (norm (u, ((u + (1 + st)) % (n : Int)), z)).1 (norm (u, ((u + (1 + st)) % (n : Int)), z)).2.1 + z)).map ent))) := But.upd _ _ _
          have d11 : (upd (upd H9 R (.tup [.int (norm (u, ((u + (1 + st)) % (n : Int)), z)).1, .int (norm (u, ((u + (1 + st)) % (n : Int)), z)).2.1])) D (.dT ((setS S (norm (u, ((u + (1 + st)) % (n : Int)), z)).1 (norm (u, ((u + (1 + st)) % (n : Int)), z)).2.1 (amt S (norm (u, ((u + (1 + st)) % (n : Int)), z)).1 (norm (u, ((u + (1 + st)) % (n : Int)), z)).2.1 + z)).map ent))) D = some (.dT ((setS S (norm (u, ((u + (1 + st)) % (n : Int)), z)).1 (norm (u, ((u + (1 + st)) % (n : Int)), z)).2.1 (amt S (norm (u, ((u + (1 + st)) % (n : Int)), z)).1 (norm (u, ((u + (1 + st)) % (n : Int)), z)).2.1 + z)).map ent)) := upd_same
          have B11 : BagAt (upd (upd H9 R (.tup [.int (norm (u, ((u + (1 + st)) % (n : Int)), z)).1, .int (norm (u, ((u + (1 + st)) % (n : Int)), z)).2.1])) D (.dT ((setS S (norm (u, ((u + (1 + st)) % (n : Int)), z)).1 (norm (u, ((u + (1 + st)) % (n : Int)), z)).2.1 (amt S (norm (u, ((u + (1 + st)) % (n : Int)), z)).1 (norm (u, ((u + (1 + st)) % (n : Int)), z)).2.1 + z)).map ent))) b l _ := B10.put hDb hDl
          have hT11 := Trs.butT hD10 c11 hT10
          refine ⟨_, rfl, .inl ⟨rfl, _, .inl (.inl e11)⟩, _, rfl, _, rfl, _, rfl, (by show 3 ≤ sizeLine; decide), fun R2 nR2 => ?_⟩
          have sR2 := same_upd (o := .tup [.int u, .int ((u + (1 + st)) % (n : Int)), .int z]) nR2
          have hR2F : R2 ≠ F := Ne.symm (ne_of_none e11 nR2)
          have e12 := sR2 _ _ e11
          refine ⟨F, xs, _, rfl, rfl, e12, by rw [hT.length, sizeLine_eq]; omega, ⟨_, _, _, _, _, _, _, rfl⟩, ((B11.same sR2).put hFb hFl).mono (by omega), fun c' o hc' ho => ?_, xs ++ [.ref R2], ps ++ [(u, ((u + (1 + st)) % (n : Int)), z)], setS S (norm (u, ((u + (1 + st)) % (n : Int)), z)).1 (norm (u, ((u + (1 + st)) % (n : Int)), z)).2.1 (amt S (norm (u, ((u + (1 + st)) % (n : Int)), z)).1 (norm (u, ((u + (1 + st)) % (n : Int)), z)).2.1 + z), upd_same, ?_, ?_, ?_, ?_, ?_, ?_⟩
          · have h10 := bR c' o hc' (b2 c' o hc' ho)
            have nD' : c' ≠ D := ne_of_none ho nD0
            rw [upd_ne (ne_of_none ho nF)]
            exact sR2 _ _ (c11 c' o nD' h10)
          · rw [upd_ne (Ne.symm hFD)]
            exact sR2 _ _ d11
          · exact Trs.append (Trs.but e12 (But.upd _ _ _) (hT11.same sR2)) ⟨⟨R2, rfl, .inl (.inl (by rw [upd_ne hR2F]; exact upd_same))⟩, True.intro⟩
          · rw [List.length_append, List.length_singleton]
            omega
          · intro p hp
            rcases List.mem_append.mp hp with hp | hp
            · exact hv p hp
            · cases List.mem_singleton.mp hp
              exact tieB_iff.mpr ⟨u0, u1, v0, v1, uv, z0, z1⟩
          · rw [List.map_append]
            exact hS.put (p := norm (u, ((u + (1 + st)) % (n : Int)), z))
          · intro a b'
            rw [List.map_append, amt_append, List.map_singleton, amt_cons, amt_nil]
            have h1 := ham a b'
            have h2 := hS.am (norm (u, ((u + (1 + st)) % (n : Int)), z)).1 (norm (u, ((u + (1 + st)) % (n : Int)), z)).2.1
            by_cases hk : (norm (u, ((u + (1 + st)) % (n : Int)), z)).1 = a ∧ (norm (u, ((u + (1 + st)) % (n : Int)), z)).2.1 = b'
            · rw [if_pos hk]
              rw [hk.1, hk.2] at h2 hle'
              show amt (ps.map norm) a b' + (z + 0) ≤ _
              omega
            · rw [if_neg hk]
              omega
        · refine ⟨⟨_, _, _, _, _, _, _, rfl⟩, B10.mono (by omega), b2.trans bR, xs, ps, S, hF10, hD10, hT10, by omega, hv, hS, ham⟩
      · rintro σ H2 ⟨⟨v5, v6, v7, v8, v9, v10, v11, rfl⟩, B2, b2, xs, ps, S, hF, hD, hT, hpl, hv, hS, ham⟩
        exact ⟨_, rfl, q H2 F xs ps B2 b2 nF hF hT hpl hv ham⟩
    · refine ⟨(0 : Int), rfl, by omega, by omega, ?_⟩
      refine for_it (walk_range (n := 0)) (fun i σ H2 => (∃ v5 v6 v7 v8 v9 v10 v11, σ = [some (.ref b), some (.int (n : Int)), some (.int (m : Int)), some (.ref F), some (.ref D), v5, v6, v7, v8, v9, v10, v11]) ∧ H2 = H1) ⟨⟨_, _, _, _, _, _, _, rfl⟩, rfl⟩ (fun _ _ _ _ _ => True.intro) (fun i x σ H2 H3 hi => absurd hi (Nat.not_lt_zero _)) ?_
      rintro σ H2 ⟨⟨v5, v6, v7, v8, v9, v10, v11, rfl⟩, rfl⟩
      exact ⟨_, rfl, q H2 F [] [] (B1.mono (by omega)) b1 nF f1 True.intro (Nat.zero_le _) (fun p hp => (by cases hp)) fun u v => by show (0 : Int) ≤ _; decide⟩
end
end T22
/-! repr of a list whose items are data (dicts with text keys among them), no repr being under way. -/
namespace Wk
open PySem PySem.Spec PyProof.Rows L2
mutual
/-- the value is such data, all its objects tracked -/
inductive Rp (H : Hp) : V → PyData → Prop
  | non : Rp H .non .none
  | bl (b : Bool) : Rp H (.bl b) (.bool b)
  | int (i : Int) : Rp H (.int i) (.int i)
  | str (x : Str) : Rp H (.str x) (.str x)
  | lst {a : Addr} {vs : List V} {ds : List PyData} : H a = some (.lst vs) → RpAll H vs ds → Rp H (.ref a) (.list ds)
  | tup {a : Addr} {vs : List V} {ds : List PyData} : H a = some (.tup vs) → RpAll H vs ds → Rp H (.ref a) (.tuple ds)
  | dic {a : Addr} {es : List (Key × V)} {ps : List (PyData × PyData)} : H a = some (.dK es) → RpKv H es ps → Rp H (.ref a) (.dict ps)
inductive RpAll (H : Hp) : List V → List PyData → Prop
  | nil : RpAll H [] []
  | cons {v : V} {vs : List V} {d : PyData} {ds : List PyData} : Rp H v d → RpAll H vs ds → RpAll H (v :: vs) (d :: ds)
inductive RpKv (H : Hp) : List (Key × V) → List (PyData × PyData) → Prop
  | nil : RpKv H [] []
  | cons {x : Str} {v : V} {es : List (Key × V)} {d : PyData} {ps : List (PyData × PyData)} : Rp H v d → RpKv H es ps → RpKv H ((Sum.inr x, v) :: es) ((.str x, d) :: ps)
end
theorem entries_more {P : Program} {w : World} {as as' : List Addr} {h : Heap} {d d' : Nat} (hsub : ∀ b ∈ as, b ∈ as') (hd : d ≤ d') : ∀ {l : List DictEntry} {ts : List Str}, ReprEntriesK P w as h d l ts → ReprEntriesK P w as' h d' l ts
  | _, _, .nil => .nil
  | _, _, .cons a b c => .cons ((a.more hsub).level_le hd) ((b.more hsub).level_le hd) (entries_more hsub hd c)
section
variable {X : Cx} {pins : List (Addr × Obj)} {σ : L2.St} {H : Hp} {s : Shared}
mutual
theorem Rp.k (I : Inv X pins σ H s) : ∀ (d : PyData) (v : V) (u : Value), Rp H v d → RelV v u → d.showable = true → d.shown.length ≤ sizeLine →
    (∃ as, Reads s.heap u d as) ∧ ∃ bs, ReadAtMost s.heap d.depth bs ∧ ReprK X.prog X.w bs s.heap d.depth u d.shown
  | .none, v, u, h, r, _, _ => by
    cases h; cases r
    refine ⟨⟨_, Reads.none⟩, [], (fun _ z => nomatch z), ?_⟩
    simp only [PyData.shown]; exact ReprK.of_is ReprIs.none _ _ _
  | .bool b, v, u, h, r, _, _ => by
    cases h; cases r
    refine ⟨⟨_, Reads.bool b⟩, [], (fun _ z => nomatch z), ?_⟩
    simp only [PyData.shown]; exact ReprK.of_is (ReprIs.bool b) _ _ _
  | .int i, v, u, h, r, hs, _ => by
    cases h
    obtain ⟨t, rfl⟩ := r
    refine ⟨⟨_, Reads.int i t⟩, [], (fun _ z => nomatch z), ?_⟩
    simp only [PyData.shown]; exact ReprK.of_is (ReprIs.int t (by simpa [PyData.showable] using hs)) _ _ _
  | .str x, v, u, h, r, _, hz => by
    cases h
    obtain ⟨t, rfl⟩ := r
    refine ⟨⟨_, Reads.str x t⟩, [], (fun _ z => nomatch z), ?_⟩
    simp only [PyData.shown] at hz ⊢; exact ReprK.of_is (ReprIs.str x t hz) _ _ _
  | .list ds, v, u, h, r, hs, hz => by
    cases h with
    | @lst a vs _ ha hall =>
      cases (show u = Value.ref a from r)
      obtain ⟨_, its, n, rv, e⟩ := (show ObjOk X.prog X.w H s.heap a (.lst vs) from I.hok a _ ha)
      simp only [PyData.shown] at hz
      simp only [PyData.showable] at hs
      obtain ⟨⟨as, ra⟩, bs, hb, hk⟩ := RpAll.k I ds vs its hall rv hs (fun t ht => Nat.le_trans (listText_mem_le ht) hz)
      have hr : Reads s.heap (.ref a) (.list ds) (a :: as) := Reads.list (vs := its.toArray) e rfl rfl (by simpa using ra)
      have hna : a ∉ bs := not_mem_of_deeper hr (by simp only [PyData.depth]; omega) hb
      refine ⟨⟨_, hr⟩, a :: bs, ReadAtMost.cons hr (by simp only [PyData.depth]; omega) hb, ?_⟩
      simp only [PyData.depth, PyData.shown]
      cases its with
      | nil =>
        cases ra
        simp only [PyData.shownAll, listText_nil]
        exact ReprK.listEmpty e rfl rfl
      | cons y l => exact ReprK.list e rfl rfl hna (by simpa using hk.length_eq) (fun i z q => hk.item i z (by simpa using q))
  | .tuple ds, v, u, h, r, hs, hz => by
    cases h with
    | @tup a vs _ ha hall =>
      cases (show u = Value.ref a from r)
      obtain ⟨_, its, rv, o, e1, e2, n, e3⟩ := (show ObjOk X.prog X.w H s.heap a (.tup vs) from I.hok a _ ha)
      simp only [PyData.shown] at hz
      simp only [PyData.showable] at hs
      obtain ⟨⟨as, ra⟩, bs, hb, hk⟩ := RpAll.k I ds vs its hall rv hs (fun t ht => Nat.le_trans (tupleText_mem_le ht) hz)
      have hr : Reads s.heap (.ref a) (.tuple ds) as := Reads.tuple (vs := its.toArray) e1 e2 e3 (by simpa using ra)
      have hna : a ∉ bs := not_mem_of_deeper hr (by simp only [PyData.depth]; omega) hb
      refine ⟨⟨_, hr⟩, a :: bs, ReadAtMost.cons hr (by simp only [PyData.depth]; omega) hb, ?_⟩
      simp only [PyData.depth, PyData.shown]
      exact ReprK.tuple e1 e2 e3 hna (by simpa using hk)
  | .dict ps, v, u, h, r, hs, hz => by
    cases h with
    | @dic a es _ ha hall =>
      cases (show u = Value.ref a from r)
      obtain ⟨_, hsys, ws, rv, o, ents, ep, e1, ex, e3, _, hp, _⟩ := (show ObjOk X.prog X.w H s.heap a (.dK es) from I.hok a _ ha)
      simp only [PyData.shown] at hz
      simp only [PyData.showable] at hs
      obtain ⟨⟨as1, as2, ra, rb⟩, bs, hb, hk⟩ := RpKv.k I ps es ws ents.toList hall rv hp hs (fun t ht => Nat.le_trans (dictText_mem_le ht) hz)
      have hr : Reads s.heap (.ref a) (.dict ps) (a :: as1 ++ as2) := Reads.dict e1 ex.1 e3 ra rb
      have hna : a ∉ bs := not_mem_of_deeper hr (by simp only [PyData.depth]; omega) hb
      refine ⟨⟨_, hr⟩, a :: bs, ReadAtMost.cons hr (by simp only [PyData.depth]; omega) hb, ?_⟩
      simp only [PyData.depth, PyData.shown]
      exact ReprK.dict e1 ex.1 e3 hsys hna hk
theorem RpAll.k (I : Inv X pins σ H s) : ∀ (ds : List PyData) (vs : List V) (us : List Value), RpAll H vs ds → Vals vs us → PyData.showableAll ds = true → (∀ t ∈ PyData.shownAll ds, t.length ≤ sizeLine) →
    (∃ as, ReadsAll s.heap us ds as) ∧ ∃ bs, ReadAtMost s.heap (PyData.depthAll ds) bs ∧ ReprAllK X.prog X.w bs s.heap (PyData.depthAll ds) us (PyData.shownAll ds)
  | [], vs, us, h, r, _, _ => by
    cases h; cases r
    refine ⟨⟨_, ReadsAll.nil⟩, [], (fun _ z => nomatch z), ?_⟩
    simp only [PyData.shownAll]; exact ReprAllK.nil
  | d :: ds, vs, us, h, r, hs, hz => by
    cases h with
    | cons h1 h2 =>
      cases r with
      | cons r1 r2 =>
        simp only [PyData.showableAll, Bool.and_eq_true] at hs
        obtain ⟨⟨a1, q1⟩, b1, p1, k1⟩ := Rp.k I d _ _ h1 r1 hs.1 (hz _ (by simp only [PyData.shownAll]; exact List.mem_cons_self))
        obtain ⟨⟨a2, q2⟩, b2, p2, k2⟩ := RpAll.k I ds _ _ h2 r2 hs.2 (fun t ht => hz t (by simp only [PyData.shownAll]; exact List.mem_cons_of_mem _ ht))
        refine ⟨⟨_, ReadsAll.cons q1 q2⟩, b1 ++ b2, (p1.mono (by simp only [PyData.depthAll]; omega)).append (p2.mono (by simp only [PyData.depthAll]; omega)), ?_⟩
        simp only [PyData.depthAll, PyData.shownAll]
        exact ReprAllK.cons ((k1.more (fun b hm => List.mem_append_left _ hm)).level_le (Nat.le_max_left _ _)) (k2.more_le (fun b hm => List.mem_append_right _ hm) (Nat.le_max_right _ _))
theorem RpKv.k (I : Inv X pins σ H s) : ∀ (ps : List (PyData × PyData)) (es : List (Key × V)) (ws : List (Key × Value)) (ents : List DictEntry), RpKv H es ps → KV es ws → Pairs (mixKind X.prog X.w) ents ws →
    PyData.showableKv ps = true → (∀ t ∈ PyData.shownKv ps, t.length ≤ sizeLine) →
    (∃ as bs, ReadsAll s.heap (ents.map (·.key)) (ps.map (·.1)) as ∧ ReadsAll s.heap (ents.map (·.val)) (ps.map (·.2)) bs) ∧
      ∃ bs, ReadAtMost s.heap (PyData.depthKv ps) bs ∧ ReprEntriesK X.prog X.w bs s.heap (PyData.depthKv ps) ents (PyData.shownKv ps)
  | [], es, ws, ents, h, r, hp, _, _ => by
    cases h; cases r; cases hp
    refine ⟨⟨_, _, ReadsAll.nil, ReadsAll.nil⟩, [], (fun _ z => nomatch z), ?_⟩
    simp only [PyData.shownKv]; exact ReprEntriesK.nil
  | (kd, d) :: ps, es, ws, ents, h, r, hp, hs, hz => by
    cases h with
    | @cons x v es' _ _ h1 h2 =>
      cases r with
      | @cons _ w1 _ wr r1 r2 =>
        obtain ⟨wk, wv⟩ := w1
        obtain ⟨ek, rv⟩ := r1
        cases hp with
        | @cons en kv er kvr hk hv hr =>
          have ek' : (Sum.inr x : Key) = wk := ek
          subst ek'
          have hv' : en.val = wv := hv
          obtain ⟨hh0, k0, v0⟩ := en
          have hv'' : v0 = wv := hv'
          subst hv''
          have sh := keyIs_shape (show keyIs (Sum.inr x) k0 = true from hk)
          obtain ⟨t, rfl⟩ : ∃ t, k0 = Value.str x t := by
            rcases sh with ⟨i, t, q, _⟩ | ⟨y, t, q, e⟩
            · exact nomatch q
            · cases q; exact ⟨t, e⟩
          simp only [PyData.showableKv, Bool.and_eq_true] at hs
          have hz1 : ((PyData.str x).shown ++ ": " ++ d.shown).length ≤ sizeLine := hz _ (by simp only [PyData.shownKv]; exact List.mem_cons_self)
          have hzk : (PyData.str x).shown.length ≤ sizeLine := by rw [strLen_append, strLen_append] at hz1; omega
          have hzv : d.shown.length ≤ sizeLine := by rw [strLen_append, strLen_append] at hz1; omega
          obtain ⟨⟨a1, q1⟩, b1, p1, k1⟩ := Rp.k I d _ _ h1 rv hs.1.2 hzv
          obtain ⟨⟨a2, c2, q2, q3⟩, b2, p2, k2⟩ := RpKv.k I ps es' wr er h2 r2 hr hs.2 (fun t ht => hz t (by simp only [PyData.shownKv]; exact List.mem_cons_of_mem _ ht))
          have kk : ReprK X.prog X.w (b1 ++ b2) s.heap (max (max (PyData.str x).depth d.depth) (PyData.depthKv ps)) (.str x t) (PyData.str x).shown := by
            simp only [PyData.shown] at hzk ⊢
            exact ReprK.of_is (ReprIs.str x t hzk) _ _ _
          refine ⟨⟨_, _, ReadsAll.cons (Reads.str x t) q2, ReadsAll.cons q1 q3⟩, b1 ++ b2, (p1.mono (by simp only [PyData.depthKv]; omega)).append (p2.mono (by simp only [PyData.depthKv]; omega)), ?_⟩
          simp only [PyData.depthKv, PyData.shownKv]
          refine ReprEntriesK.cons kk ((k1.more (fun b hm => List.mem_append_left _ hm)).level_le (by omega)) ?_
          exact entries_more (fun b hm => List.mem_append_right _ hm) (by omega) k2
end
end
end Wk
namespace Wk
open PySem PySem.Spec PyProof.Rows L2
/-- repr(xs), xs a list of such data -/
def rReprL : List V → Hp → VK → Prop := fun xs H Q => ∃ (a : Addr) (vs : List V) (ds : List PyData), xs = [.ref a] ∧ H a = some (.lst vs) ∧ RpAll H vs ds ∧ PyData.showableAll ds = true ∧ PyData.depthAll ds ≤ 40 ∧
  (listText (PyData.shownAll ds)).length ≤ sizeLine ∧ Q (.str (listText (PyData.shownAll ds))) H
section
variable {X : Cx}
theorem call_reprL (hg : Gd X.A) (hu : X.A.units + 64 < cLine) : CallR X (.builtin "repr") rReprL := by
  intro pins s σ H xs us Q I r h
  obtain ⟨a, vs, ds, rfl, ha, hall, hs, hd, hz, q⟩ := h
  obtain ⟨u, rfl, e⟩ := vals1 r
  cases (show u = Value.ref a from e)
  obtain ⟨_, its, n, rv, e1⟩ := (show ObjOk X.prog X.w H s.heap a (.lst vs) from I.hok a _ ha)
  obtain ⟨⟨as, ra⟩, bs, hb, hk⟩ := RpAll.k I ds vs its hall rv hs (fun t ht => Nat.le_trans (listText_mem_le ht) hz)
  have hr : Reads s.heap (.ref a) (.list ds) (a :: as) := Reads.list (vs := its.toArray) e1 rfl rfl (by simpa using ra)
  have hna : a ∉ bs := not_mem_of_deeper hr (by simp only [PyData.depth]; omega) hb
  refine call_repr_slot (by omega) ⟨_, e1, rfl⟩ F.slot_list_repr.toG ?_
  cases its with
  | nil =>
    cases ra
    simp only [PyData.shownAll, listText_nil] at q
    exact call_list_repr_empty ⟨_, e1, rfl⟩ e1 rfl ⟨_, _, rfl, .str "[]", H, I.tok _, ⟨_, rfl⟩, q⟩
  | cons y l =>
    refine call_list_reprK e1 rfl rfl hna (by simpa using hk.length_eq) (fun i z w => hk.item i z (by simpa using w)) hg (fun b _ => Clear.nil b) (by show X.A.units + 1 + _ < _; omega) (fun _ _ z => z) (fun h' u tk kp => ?_) hz
    exact ⟨_, _, rfl, .str _, H, I.kept (t' := tk) kp, ⟨_, rfl⟩, q⟩
end
end Wk
/-! Exceptions of own classes: the handled one as an argument (isinstance, its fields), made with fields, made as values. -/
namespace Wk
open PySem PySem.Spec PyProof.Rows L2
/-- the exception's own dict, if it has one, is tracked -/
def DictOk (d : Option Addr) (H : Hp) : Prop := d = none ∨ ∃ (dd : Addr) (fs : List (Str × V)), d = some dd ∧ H dd = some (.xd fs)
section
variable {X : Cx} {a : Addr} {oe : Obj} {cls : Value} {d : Option Addr} {pins : List (Addr × Obj)} {σ : L2.St} {H : Hp} {s : Shared} {D : Addr}
theorem inst_of (I : Inv X pins σ H s) (hg : s.heap.get? a = some oe) (hz : Zc (.ref D) d oe) (hf : ∃ ws, oe.data = .fields ws) (hd : DictOk d H) : ∃ od, PySem.W.InstAt s.heap a oe D od := by
  obtain ⟨ws, hw⟩ := hf
  have hn : PySem.W.notCls oe = true := by unfold PySem.W.notCls; rw [hw] <;> rfl
  rcases hd with rfl | ⟨dd, fs, rfl, ha⟩
  · exact ⟨none, hg, hz.1, hn, by rw [hz.2]; trivial⟩
  · have hx : ObjOk X.prog X.w H s.heap dd (.xd fs) := I.hok dd _ ha
    obtain ⟨mA, ⟨o, es, ep, ho, _⟩, _⟩ := hx
    exact ⟨some o, hg, hz.1, hn, by rw [hz.2]; exact ho⟩
/-- isinstance(e, c) where e is the exception at a -/
def rIsP (K : PySem.W.Frag) (a : Addr) (cls : Value) (d : Option Addr) : List V → Hp → VK → Prop := fun xs H Q => ∃ (c : V) (cv : Value) (b : Bool) (D : Addr), xs = [.ref a, c] ∧ ClsV c cv ∧ cls = .ref D ∧ ExcC K D ∧ DictOk d H ∧
  PySem.W.kitOne K (.ref D) cv = some b ∧ Q (.bl b) H
theorem call_isP (hp : (a, oe) ∈ X.pn) (hz : Zc cls d oe) (hf : ∃ ws, oe.data = .fields ws) : CallR X (.builtin "isinstance") (rIsP X.K a cls d) := by
  intro pins s σ H xs us Q I r h
  obtain ⟨c, cv, b, D, rfl, hc, rfl, T, hd, e, q⟩ := h
  obtain ⟨u1, u2, rfl, r1, r2⟩ := vals2 r
  cases (show u1 = Value.ref a from r1)
  have ec := hc.eq r2
  subst ec
  obtain ⟨od, J⟩ := inst_of I (I.pin (a, oe) (List.mem_append_left _ hp)).1 hz hf hd
  have hcl : (PySem.W.clsIn X.K D).isSome = true := by
    have hh := T.hd
    unfold PySem.W.hasDictIn at hh
    cases e2 : PySem.W.clsIn X.K D with
    | none => rw [e2] at hh; cases hh
    | some _ => rfl
  exact PySem.W.kia_one (PySem.W.kitx_exc hcl T.hg T.hk T.hs T.ha T.hn T.ht T.hm) I.kIn J e (fun z => nomatch z) fun tk => ⟨.bl b, H, I.tok tk, rfl, q⟩
/-- e.f where e is the exception at a -/
def tXfP (K : PySem.W.Frag) (a : Addr) (cls : Value) (d : Option Addr) (f : Str) (te : TE) : TE := fun σ H Q => te σ H fun x H1 => x = .ref a ∧ ∃ (D dd : Addr) (fs : List (Str × V)) (v : V), cls = .ref D ∧ XfC K D ∧
  PySem.W.findIn K (.ref D) f = some none ∧ d = some dd ∧ H1 dd = some (.xd fs) ∧ fs.lookup f = some v ∧ Q v H1
theorem pe_xfP {e : Expr} {te : TE} {pos : Pos} {n : Str} (hp : (a, oe) ∈ X.pn) (hz : Zc cls d oe) (hf : ∃ ws, oe.data = .fields ws) (he : PE X e te) (hb : attributeBase e n X.env (eval e X.env) = eval e X.env := by rfl) :
    PE X (.Attribute e n pos) (tXfP X.K a cls d n te) := by
  refine ⟨fun pins s σ H Q I h => attr_of hb (thn (he.run pins s σ H _ I h) fun u s1 hh => ?_)⟩
  obtain ⟨x, H1, I1, rx, rfl, D, dd, fs, v, rfl, T, hno, rfl, ea, l, q⟩ := hh
  cases (show u = Value.ref a from rx)
  obtain ⟨ha, _⟩ := I1.pin (a, oe) (List.mem_append_left _ hp)
  obtain ⟨ws, hw⟩ := hf
  obtain ⟨mA, hns, hr⟩ := (show ObjOk X.prog X.w H1 s1.heap dd (.xd fs) from I1.hok dd _ ea)
  obtain ⟨od, ho, hl⟩ := lookIn_ns hns
  obtain ⟨u2, hu, ru⟩ := RelO.some_of (v := v) (o := mA n) (by rw [← l]; exact hr n)
  have J : PySem.W.InstAt s1.heap a oe D (some od) := ⟨ha, hz.1, by unfold PySem.W.notCls; rw [hw] <;> rfl, by rw [hz.2]; exact ho⟩
  exact HandSPX.exc_get I1.kIn J T.ga T.gg T.exC (PySem.W.findObj_own T.hdC hno rfl (by rw [hl, hu])) (handed_of ru) ⟨v, H1, I1.tok _, ru, q⟩
end

/-! ### made with fields, its context None -/
section
variable {X : Cx} {e : Expr} {es : List Expr} {ta : TA} {p pos : Pos}
theorem pmkN_oex {CX : CXT} {x : Str} {C fI : Addr} {k : Nat} {fd : FuncData} {ps : List Str} {sp : Sp} (T : OexC X.K C) (iC : PySem.W.findIn X.K (.ref C) "__init__" = some (some (.ref fI))) (tI : PySem.W.typeIn X.K (.ref fI) = some (.type "function"))
    (F1 : FnOk X.prog X.w X.K X.mg X.base CX k fI fd ps sp) (hr : Room (k + 1) X.A) (hb : Binds X.K fd ps []) (hx : Passes CX X (fun _ _ _ => False)) (hg : Gl X x) (hm : X.mg x = some (.ref C)) (ha : PA X (e :: es) ta)
    (hdb : (x == ("__debug__" : Str)) = false := by decide) (he : starEach (e :: es) X.env = (false, eval e X.env) :: starEach es X.env := by rfl) (hpl : (backTo pos (starEach es X.env)).any (·.1) = false := by rfl) :
    L2N.PMk X (.Call (.Name x p) (e :: es) [] pos) (tMkO C sp [] ta) := by
  intro pins s σ H Q I h
  obtain ⟨nm, q, N, bs, bm, sn, sub, ab, col, dd, k0, k1, k2, k3, k5, hC, hbm⟩ := T.cls
  refine wpAny_Call_Name_kw (ld_glob I hg hm ?_ hdb)
  refine PySem.W.callWith_K (h₀ := X.base) I.ok.mod.kin T.kC (thn (ha.run pos pins s σ H _ I h) (fun us s1 hu => ?_)) he hpl
  obtain ⟨vs, H1, I1, r1, hz, q1⟩ := hu
  refine ⟨I1.kIn, ?_⟩
  obtain ⟨hp, g, dr, tk, os⟩ := s1
  have up : hp.objs.size ≤ hp.objs.size + 1 := Nat.le_succ _
  have fresh : H1 (hp.objs.size + 1) = none := I1.hok.fresh up
  have hq := q1 (hp.objs.size + 1) fresh
  rw [List.append_nil] at hq
  have keep : ∀ b o, hp.get? b = some o → ((hp.push (PySem.W.kdv_tup us)).push (PySem.HandSPX.excO C hp.objs.size)).get? b = some o := fun b o z => Heap.get?_push_of_some _ (Heap.get?_push_of_some _ z)
  have here : ((hp.push (PySem.W.kdv_tup us)).push (PySem.HandSPX.excO C hp.objs.size)).get? (hp.objs.size + 1) = some (PySem.HandSPX.excO C hp.objs.size) := by heap_get
  have J : Inv X pins σ (upd H1 (hp.objs.size + 1) (exo (hp.objs.size + 1) C none)) ⟨(hp.push (PySem.W.kdv_tup us)).push (PySem.HandSPX.excO C hp.objs.size), g, dr, tk, os⟩ := I1.laid (t' := tk) keep up (exo_ok here)
  have r2 : Vals (V.ref (hp.objs.size + 1) :: vs) (Value.ref (hp.objs.size + 1) :: us) := .cons rfl r1
  have hl : (Value.ref (hp.objs.size + 1) :: us ++ []).length = ps.length := by
    have z := r2.length
    rw [F1.len _ _ _ _ hq] at z
    rw [List.append_nil]; exact z.symm
  have small : us.length ≤ sizeLine := by rw [← Paired.length r1, sizeLine_eq]; omega
  have b := hb _ (Value.ref (hp.objs.size + 1) :: us) J.kIn hl
  rw [List.append_nil] at b
  refine wpAny_call (PySem.HandSPX.call_own F.excBase_ValueError (fun Y => PySem.HandSPX.refsVE_contains Y bm hbm) (I1.kIn _ _ hC) (PySem.W.looks_findIn I1.kIn iC) (fun self => PySem.W.bind_fn I1.kIn self tI) small
    (codeAny_mono (F1.run _ X.stack _ _ ⟨Value.ref (hp.objs.size + 1) :: us, []⟩ (Value.ref (hp.objs.size + 1) :: us) _ _ (fun _ _ _ => False) (hr.make C us []) (J.env0.make C us []) b r2 hq) (fun r s' hq' => ?_)))
  cases r with
  | error er => exact hx pins σ _ _ er s' J hq'
  | ok fl =>
    match fl, hq' with
    | .ret u, hq' =>
      obtain ⟨v, H2, os2, bare2, un2, hok2, rv, ev, d, fs, ea, ed, hd1, q2⟩ := hq'
      subst ev
      obtain ⟨h2, g2, d2, t2, os'⟩ := s'
      obtain ⟨t0, G, J2, kG, ge, hoe, na⟩ := mk_end0 (d2 := d2) (t2 := t2) I1 up keep un2 hok2 os2 bare2 ea ed hd1
      exact ⟨rv, hp.objs.size + 1, _, _, ⟨G, g2, d2, t2, os'⟩, _, .ref C, some d, rfl, J2, kG, ge, hoe, ⟨rfl, rfl, fun ws hw => by cases hw; rfl⟩, rfl, rfl, na, rfl, bare2, raises_own T.exC T.tyC, q2⟩
end

/-! ### made without fields -/
section
variable {X : Cx} {C : Addr} {bmB : List Value} {B newId initId : String} {x : Str} {p pos : Pos}
/-- X(..) of an own class without own __init__: what is made -/
theorem made_exc {pins : List (Addr × Obj)} {σ : L2.St} {H : Hp} {s : Shared} {us : List Value} {Q : Value → Shared → Prop} {E : Value → Shared → Prop} (F : ExcBaseFacts B newId initId bmB) (q : PySem.W.excIn X.K C bmB newId = true) (I : Inv X pins σ H s) (hz : us.length ≤ sizeLine)
    (h : ∀ h' e, Heap.MadeExcOf s.heap h' e (.ref C) us → Q (.ref e) { s with heap := h' }) : wpAny (model X.prog X.w) X.A (call (.ref C) us) Q E s := by
  obtain ⟨hp, g, d, t, os⟩ := s
  obtain ⟨bm, N, nm, qn, bs, hdct, sn, sub, ab, col, dd, k0, k1, k2, k3, k5, mN, hC, hN, hni, T⟩ := exc_obj I.kIn q
  exact wpAny_call_exc_subT F T hC hN hni (fun h' e hm => h h' e hm) hz
theorem pmkN_own0 (F : ExcBaseFacts B newId initId bmB) (q : PySem.W.excIn X.K C bmB newId = true) (gC : X.mg x = some (.ref C)) (kC : PySem.W.keepIn X.K (.ref C) = true) (r : Raises X (.ref C)) (hg : Gl X x)
    (hdb : (x == ("__debug__" : Str)) = false := by decide) : L2N.PMk X (.Call (.Name x p) [] [] pos) (fun _ H Q => Q (.ref C) none H) := by
  intro pins s σ H Q I h
  refine wpAny_Call_Name_kw (ld_glob I hg gC ?_ hdb)
  refine PySem.W.callWith_K0 I.kIn kC (made_exc F q I (Nat.zero_le _) fun h' e hm => ?_)
  exact L2N.mk_of I hm r h (I.hok.gone hm.new)
theorem pmkN_ownA {e : Expr} {es : List Expr} {t : TA} (F : ExcBaseFacts B newId initId bmB) (q : PySem.W.excIn X.K C bmB newId = true) (gC : X.mg x = some (.ref C)) (kC : PySem.W.keepIn X.K (.ref C) = true) (r : Raises X (.ref C)) (hg : Gl X x) (ha : PA X (e :: es) t)
    (hdb : (x == ("__debug__" : Str)) = false := by decide) (he : starEach (e :: es) X.env = (false, eval e X.env) :: starEach es X.env := by rfl) (hpl : (backTo pos (starEach es X.env)).any (·.1) = false := by rfl) :
    L2N.PMk X (.Call (.Name x p) (e :: es) [] pos) (fun σ H Q => t σ H fun vs H1 => vs.length ≤ sizeLine ∧ Q (.ref C) none H1) := by
  intro pins s σ H Q I h
  refine wpAny_Call_Name_kw (ld_glob I hg gC ?_ hdb)
  refine PySem.W.callWith_K (h₀ := X.base) I.ok.mod.kin kC (thn (ha.run pos pins s σ H _ I h) (fun us s1 hu => ?_)) he hpl
  obtain ⟨vs, H1, I1, r1, hz, q1⟩ := hu
  exact ⟨I1.kIn, made_exc F q I1 (by have z := r1.length; show us.length ≤ sizeLine; omega) fun h' e hm => L2N.mk_of I1 hm r q1 (I1.hok.gone hm.new)⟩
/-- X(..) as a value -/
theorem pe_excV0 (F : ExcBaseFacts B newId initId bmB) (q : PySem.W.excIn X.K C bmB newId = true) (gC : X.mg x = some (.ref C)) (kC : PySem.W.keepIn X.K (.ref C) = true) (hg : Gl X x) (hdb : (x == ("__debug__" : Str)) = false := by decide) :
    PE X (.Call (.Name x p) [] [] pos) (fun _ H Q => ∀ a, H a = none → Q (.ref a) (upd H a (ExO (.ref C) a))) := by
  refine ⟨fun pins s σ H Q I h => wpAny_Call_Name_kw (ld_glob I hg gC ?_ hdb)⟩
  refine PySem.W.callWith_K0 I.kIn kC (made_exc F q I (Nat.zero_le _) fun h' a hm => ?_)
  have hn : H a = none := I.hok.gone hm.new
  obtain ⟨t, ht, _, _⟩ := hm.there
  exact ⟨.ref a, _, I.laidN (t' := s.toks) hm.keeps hm.new hn (exO_ok ht ⟨rfl, rfl⟩ rfl rfl rfl (show 4 < 6 by decide)), rfl, h a hn⟩
theorem pe_excVA {e : Expr} {es : List Expr} {t : TA} (F : ExcBaseFacts B newId initId bmB) (q : PySem.W.excIn X.K C bmB newId = true) (gC : X.mg x = some (.ref C)) (kC : PySem.W.keepIn X.K (.ref C) = true) (hg : Gl X x) (ha : PA X (e :: es) t)
    (hdb : (x == ("__debug__" : Str)) = false := by decide) (he : starEach (e :: es) X.env = (false, eval e X.env) :: starEach es X.env := by rfl) (hpl : (backTo pos (starEach es X.env)).any (·.1) = false := by rfl) :
    PE X (.Call (.Name x p) (e :: es) [] pos) (fun σ H Q => t σ H fun vs H1 => vs.length ≤ sizeLine ∧ ∀ a, H1 a = none → Q (.ref a) (upd H1 a (ExO (.ref C) a))) := by
  refine ⟨fun pins s σ H Q I h => wpAny_Call_Name_kw (ld_glob I hg gC ?_ hdb)⟩
  refine PySem.W.callWith_K (h₀ := X.base) I.ok.mod.kin kC (thn (ha.run pos pins s σ H _ I h) (fun us s1 hu => ?_)) he hpl
  obtain ⟨vs, H1, I1, r1, hz, q1⟩ := hu
  refine ⟨I1.kIn, made_exc F q I1 (by have z := r1.length; show us.length ≤ sizeLine; omega) fun h' a hm => ?_⟩
  have hn : H1 a = none := I1.hok.gone hm.new
  obtain ⟨w, ht, _, _⟩ := hm.there
  exact ⟨.ref a, _, I1.laidN (t' := s1.toks) hm.keeps hm.new hn (exO_ok ht ⟨rfl, rfl⟩ rfl rfl rfl (show 4 < 6 by decide)), rfl, q1 a hn⟩
/-- isinstance(e, c), e such a value -/
def rIsV (K : PySem.W.Frag) : List V → Hp → VK → Prop := fun xs H Q => ∃ (a D : Addr) (c : V) (cv : Value) (b : Bool), xs = [.ref a, c] ∧ H a = some (ExO (.ref D) a) ∧ ClsV c cv ∧ ExcC K D ∧ PySem.W.kitOne K (.ref D) cv = some b ∧ Q (.bl b) H
theorem call_isV : CallR X (.builtin "isinstance") (rIsV X.K) := by
  intro pins s σ H xs us Q I r h
  obtain ⟨a, D, c, cv, b, rfl, hx, hc, T, e, q⟩ := h
  obtain ⟨u1, u2, rfl, r1, r2⟩ := vals2 r
  cases (show u1 = Value.ref a from r1)
  have ec := hc.eq r2
  subst ec
  have hx2 : ObjOk X.prog X.w H s.heap a (ExO (.ref D) a) := I.hok a _ hx
  obtain ⟨⟨oe, ws, hg, hz, hw, _⟩, _, _⟩ := hx2
  obtain ⟨od, J⟩ := inst_of I hg hz ⟨ws, hw⟩ (Or.inl rfl)
  have hcl : (PySem.W.clsIn X.K D).isSome = true := by
    have hh := T.hd
    unfold PySem.W.hasDictIn at hh
    cases e2 : PySem.W.clsIn X.K D with
    | none => rw [e2] at hh; cases hh
    | some _ => rfl
  exact PySem.W.kia_one (PySem.W.kitx_exc hcl T.hg T.hk T.hs T.ha T.hn T.ht T.hm) I.kIn J e (fun z => nomatch z) fun tk => ⟨.bl b, H, I.tok tk, rfl, q⟩
end
end Wk
/-! A list comprehension within an except suite. -/
namespace Wk
open PySem PySem.Spec PyProof.Rows L2
/-- the comprehension's block, the suite's pins borne -/
abbrev blkP (X : Cx) (s : Shared) (H : Hp) (scope : Scope) (cenv : Env) (fp : List Addr) : Cx := { X.blk s H scope cenv fp with pn := X.pn }
section
variable {X : Cx} {s s' : Shared} {H H' : Hp} {scope : Scope} {cenv : Env} {fp : List Addr} {pins : List (Addr × Obj)} {σ : L2.St}
theorem Cx.Ok.toP (o : (X.blk s H scope cenv fp).Ok) : (blkP X s H scope cenv fp).Ok :=
  ⟨o.mod, o.kind, o.glob, o.blt, o.above, o.inj, o.has, o.cab, o.hd, o.frames, o.stk, o.exf, o.bs, o.bsz, o.noex, o.exfs, o.funs, o.frf⟩
theorem Cx.Ok.ofP (o : (blkP X s H scope cenv fp).Ok) : (X.blk s H scope cenv fp).Ok :=
  ⟨o.mod, o.kind, o.glob, o.blt, o.above, o.inj, o.has, o.cab, o.hd, o.frames, o.stk, o.exf, o.bs, o.bsz, o.noex, o.exfs, o.funs, o.frf⟩
theorem toP (I : Inv (X.blk s H scope cenv fp) pins σ H' s') (h : ∀ p ∈ X.pn, s'.heap.get? p.1 = some p.2 ∧ H' p.1 = none ∧ p.1 ≠ cenv.locals ∧ p.1 ∉ frs X.stack ∧ ∀ v, p.2.data ≠ .cell v) :
    Inv (blkP X s H scope cenv fp) pins σ H' s' :=
  ⟨Cx.Ok.toP I.ok, I.os, I.bare, I.base, I.loc, I.cell, I.free, I.freeC, fun p hp => (List.mem_append.mp hp).elim (h p) (fun z => I.pin p (List.mem_append_right _ z)), I.hok, I.len⟩
theorem ofP (I : Inv (blkP X s H scope cenv fp) pins σ H' s') : Inv (X.blk s H scope cenv fp) pins σ H' s' :=
  ⟨Cx.Ok.ofP I.ok, I.os, I.bare, I.base, I.loc, I.cell, I.free, I.freeC, fun p hp => (List.mem_append.mp hp).elim (fun z => nomatch z) (fun z => I.pin p (List.mem_append_right _ z)), I.hok, I.len⟩
end
section
variable {X : Cx}
theorem pe_lcH {elt tg iter : Expr} {ifs : List Expr} {scope : Scope} {own : List (Str × Nat)} {pos : Pos} {wi : TI} {g : TG} {tt : TT} {te : TE} (hc : L2H.HotC X) (hN : X.N.Nodup) (hi : L2H.PIH X tg iter wi) (ok : BlkOk X.N X.env.scope scope own)
    (hg : ∀ (s : Shared) (H : Hp) (C : Addr) (cl : List (Str × Addr)) (fp : List Addr), PG (X.blk s H scope (compEnvC scope cl C X.env) fp) tg g)
    (ht : ∀ (s : Shared) (H : Hp) (C : Addr) (cl : List (Str × Addr)) (fp : List Addr), PTs (X.blk s H scope (compEnvC scope cl C X.env) fp) ifs tt)
    (he : ∀ (s : Shared) (H : Hp) (C : Addr) (cl : List (Str × Addr)) (fp : List Addr), PE (X.blk s H scope (compEnvC scope cl C X.env) fp) elt te)
    (hs : ∀ x, foldedSetIterable iter X.env x = pure x := by intro _; rfl) : PE X (.ListComp elt [⟨tg, iter, ifs, 0⟩] scope pos) (tLc wi g tt te (own.map (·.2))) := by
  refine ⟨fun pins s σ H Q I h => ?_⟩
  rw [eval_ListComp]
  have hfree : ∀ y ∈ scope.names, y.2 = .free → ∃ c, X.env.cells.lookup y.1 = some c := by
    intro y hy z
    exact (ok.free y hy z).elim (fun k => I.ok.has _ (.inl k)) (fun k => I.ok.has _ (.inr k))
  refine wpAny_comprehension_free (use := none) rfl hs (closure_ok hfree) ok.kind (fun y hy z => by rw [ok.uniq y hy, z]) (thn (hi.run pins s σ H _ I h) (fun xv s1 hx => thn hx (fun itv s2 h2 => ?_)))
  obtain ⟨it, fp, tn, J, H2, rfl, I2, T, st2, f2, q⟩ := h2
  refine wpAny_newObj_type (newEnv_comp ?_) (by show 0 ≤ sizeLine; decide)
  generalize hD : s2.heap.objs.size = D
  have nD : H2 D = none := I2.hok.fresh (Nat.le_of_eq hD)
  obtain ⟨W, ⟨m0, w0⟩, turn⟩ := q D nD
  generalize hs3 : ({ s2 with heap := s2.heap.push { cls := .type "list", data := .seq ([] : List Value).toArray } } : Shared) = s3
  have e3 : s3.heap = s2.heap.push { cls := .type "list", data := .seq ([] : List Value).toArray } := by rw [← hs3]
  have I3 : Inv X pins σ (upd H2 D (.lst [])) s3 := by
    rw [← hs3]
    refine I2.laid (t' := s2.toks) (fun b o z => Heap.get?_push_of_some _ z) (Nat.le_of_eq hD) ⟨Nat.zero_le _, [], 0, .nil, ?_⟩
    rw [← hD]; exact Heap.get?_push_size _ rfl
  have lt2 : ∀ b ∈ fp, b < s2.heap.objs.size := fun b hb => (T.obj _ _ st2 b hb).elim fun o z => Heap.lt_size z.1
  have f3 : ∀ b ∈ fp, FpOk X pins (upd H2 D (.lst [])) b ∧ b < s3.heap.objs.size := by
    intro b hb
    refine ⟨⟨?_, (f2 b hb).2⟩, by rw [e3, Heap.size_push]; exact Nat.lt_succ_of_lt (lt2 b hb)⟩
    rw [upd_ne (by rw [← hD]; exact Nat.ne_of_lt (lt2 b hb))]
    exact (f2 b hb).1
  have st3 : tn 0 s3.heap := T.keep _ _ _ st2 (fun b _ o z => by rw [e3]; exact Heap.get?_push_of_some _ z)
  have I4 := block_start I3 ok hN f3
  have pg := hg s3 (upd H2 D (.lst [])) s3.heap.objs.size (cellsFrom (s3.heap.objs.size + 1) scope.names (cloFrom X.env.cells scope.names [])) fp
  have pt := ht s3 (upd H2 D (.lst [])) s3.heap.objs.size (cellsFrom (s3.heap.objs.size + 1) scope.names (cloFrom X.env.cells scope.names [])) fp
  have pe := he s3 (upd H2 D (.lst [])) s3.heap.objs.size (cellsFrom (s3.heap.objs.size + 1) scope.names (cloFrom X.env.cells scope.names [])) fp
  show codeAny _ _ (.compStart (.ListComp elt [⟨tg, iter, ifs, 0⟩] scope pos) 0 (.ref it) (.ref D)
    (compEnvC scope (cellsFrom (s3.heap.objs.size + 1) scope.names (cloFrom X.env.cells scope.names [])) s3.heap.objs.size X.env))
    (compPost (model X.prog X.w) X.A X.xe none (EP X pins σ Q) (.ref D) s3.heap.objs.size) { s3 with heap := pushCells (s3.heap.push { cls := .type "dict", data := .dict #[] }) scope.names }
  have nfp : ∀ b ∈ fp, (upd H2 D (.lst [])) b = none := fun b hb => (f3 b hb).1.1
  generalize hce : compEnvC scope (cellsFrom (s3.heap.objs.size + 1) scope.names (cloFrom X.env.cells scope.names [])) s3.heap.objs.size X.env = ce at I4 pg pt pe ⊢
  have cL : ce.locals = s3.heap.objs.size := by subst hce; rfl
  generalize hH3 : upd H2 D (.lst []) = H3 at I3 I4 pg pt pe w0 nfp f3
  generalize hs4 : ({ s3 with heap := pushCells (s3.heap.push { cls := .type "dict", data := .dict #[] }) scope.names } : Shared) = s4 at I4 ⊢
  have st4 : tn 0 s4.heap := T.keep _ _ _ st3 (fun b _ o z => by rw [← hs4]; exact pushCells_keeps _ _ _ _ (Heap.get?_push_of_some _ z))
  -- the suite's pins stand at every turn
  have pinK : ∀ {σ' : L2.St} {H' : Hp} {s' : Shared}, Inv (X.blk s3 H3 scope ce fp) [] σ' H' s' → ∀ p ∈ X.pn, s'.heap.get? p.1 = some p.2 ∧ H' p.1 = none ∧ p.1 ≠ ce.locals ∧ p.1 ∉ frs X.stack ∧ ∀ v, p.2.data ≠ .cell v := by
    intro σ' H' s' J p hp
    obtain ⟨g1, g2, g3, g4, g5⟩ := I3.pin p (List.mem_append_left _ hp)
    have ns : p.1 ∉ frs X.stack := fun z => (List.mem_cons.mp (I3.stkSub p.1 z)).elim g3 g4
    have nf : p.1 ∉ fp := fun z => (f3 p.1 z).1.2.2.2.2.2 p (List.mem_append_left _ hp) rfl
    exact ⟨J.base.keep p.1 p.2 g1 g2 ns nf, J.base.free p.1 p.2 g1 g2 nf, by rw [cL]; exact Nat.ne_of_lt (Heap.lt_size g1), ns, g5⟩
  have stat : ∀ {σ' : L2.St} {H' : Hp} {s' : Shared}, Inv (X.blk s3 H3 scope ce fp) [] σ' H' s' → (∀ b ∈ fp, H' b = none) → ∀ b ∈ fp, FpOk (blkP X s3 H3 scope ce fp) [] H' b := by
    intro σ' H' s' J hn b hb
    refine ⟨hn b hb, (J.ok.exf b hb).1, J.ok.exfs b hb, .inl hb, fun x c z => (J.ok.exf b hb).2 x c z, fun p hp => ?_⟩
    have hp' : p ∈ X.pn := by simpa using hp
    exact (f3 b hb).1.2.2.2.2.2 p (List.mem_append_left _ hp')
  have stat0 : ∀ {σ' : L2.St} {H' : Hp} {s' : Shared}, Inv (X.blk s3 H3 scope ce fp) [] σ' H' s' → (∀ b ∈ fp, H' b = none) → ∀ b ∈ fp, FpOk (X.blk s3 H3 scope ce fp) [] H' b := by
    intro σ' H' s' J hn b hb
    exact ⟨hn b hb, (J.ok.exf b hb).1, J.ok.exfs b hb, .inl hb, fun x c z => (J.ok.exf b hb).2 x c z, fun p hp => absurd (show p ∈ ([] : List (Addr × Obj)) ++ [] from hp) (by simp)⟩
  have hcb : L2H.HotC (blkP X s3 H3 scope ce fp) := hc
  have loop : codeAny (model X.prog X.w) X.A (.compLoop (.ListComp elt [⟨tg, iter, ifs, 0⟩] scope pos) 0 (.ref it) (.ref D) ce) (compPost (model X.prog X.w) X.A X.xe none (EP X pins σ Q) (.ref D) s3.heap.objs.size) s4 := by
    refine compLoop_any (fun n s' => ∃ i H', Inv (X.blk s3 H3 scope ce fp) [] (wipe σ (own.map (·.2))) H' s' ∧ tn i s'.heap ∧ (∀ b ∈ fp, H' b = none) ∧ W i n H') ?_ m0 ⟨0, H3, I4, st4, nfp, w0⟩
    rintro n s5 ⟨i, H5, I5, st5, n5, w5⟩
    rcases turn i n H5 w5 with ⟨stop, qq⟩ | ⟨go, Nx, hNx, step⟩
    · refine thnF (T.done (blkP X s3 H3 scope ce fp) rfl rfl rfl hcb i [] s5 _ H5 (fun _ _ => False) (toP I5 (pinK I5)) (stat I5 n5) st5 stop) (fun r s6 hr => ?_)
      obtain ⟨rfl, I6p⟩ := hr
      have I6 := ofP I6p
      have I7 : Inv X pins σ H5 s6 := I3.call' (ch := fp) I6.os I6.base I6.hok I6.bare (fun b hb => ⟨(f3 b hb).1.2.2.2.1, (f3 b hb).1.2.1, (f3 b hb).1.2.2.2.2.1, (f3 b hb).1.2.2.2.2.2⟩)
      have nC : H5 s3.heap.objs.size = none := by
        have z : H5 ce.locals = none := I6.free
        rw [cL] at z; exact z
      obtain ⟨m, hn, _⟩ := I6.loc
      have hn : s6.heap.Ns ce.locals m := hn
      rw [cL] at hn
      obtain ⟨k0, k1, k2, k3, k4, k5⟩ := I3.fpOk (Nat.le_refl _) nC
      exact ⟨m, hn, fun h'' sb => ⟨.ref D, H5, I7.turned (t' := s6.toks) (fun b o hb z => (sb.2 b hb).trans z) k0 k1 k3 k4 k5, rfl, qq⟩⟩
    · refine thnF (T.item (blkP X s3 H3 scope ce fp) rfl rfl rfl hcb i [] s5 _ H5 (fun _ _ => False) (toP I5 (pinK I5)) (stat I5 n5) st5 go) (fun r s6 hr => ?_)
      obtain ⟨u, rfl, h6⟩ := hr
      refine thnF h6 (fun _ s7 h7 => ?_)
      obtain ⟨x, H7, I7p, r7, y7, st7, n7⟩ := h7
      have I7 := ofP I7p
      have I7' := I7.pinned (stat0 I7 n7) (T.obj _ _ st7)
      refine thnF (pg.run _ s7 _ H7 x u _ I7' r7 (step x H7 y7)) (fun _ s8 h8 => ?_)
      obtain ⟨σ8, H8, I8, hw8, q8⟩ := h8
      refine thnF (pt.run _ s8 σ8 H8 _ I8 q8) (fun b s9 h9 => ?_)
      obtain ⟨H9, I9, q9⟩ := h9
      have fin : ∀ {s' : Shared} {H' : Hp}, Inv (X.blk s3 H3 scope ce fp) ([] ++ pinsAt fp s7.heap) σ8 H' s' → Nx H' →
          ∃ m, m < n ∧ ∃ i H', Inv (X.blk s3 H3 scope ce fp) [] (wipe σ (own.map (·.2))) H' s' ∧ tn i s'.heap ∧ (∀ b ∈ fp, H' b = none) ∧ W i m H' := by
        intro s' H' J nx
        obtain ⟨m', hm, w'⟩ := hNx H' nx
        have pin' : ∀ b ∈ fp, ∀ o, s7.heap.get? b = some o → s'.heap.get? b = some o ∧ H' b = none := fun b hb o z =>
          let y := J.pin (b, o) (List.mem_append_right _ (List.mem_append_right _ (mem_pinsAt hb z)))
          ⟨y.1, y.2.1⟩
        have hl : (wipe σ (own.map (·.2))).length = σ8.length := by rw [← hw8, wipe_length]
        refine ⟨m', hm, i + 1, H', (J.unpinned (pins := [])).weak hl (fun j v z => ?_), T.keep _ _ _ st7 (fun b hb o z => (pin' b hb o z).1), fun b hb => ?_, w'⟩
        · rw [← hw8] at z
          exact (wipe_some z).1
        · obtain ⟨o, z, _⟩ := T.obj _ _ st7 b hb
          exact (pin' b hb o z).2
      cases b with
      | false =>
        simp only [Bool.false_eq_true, if_false] at q9 ⊢
        exact fin I9 q9
      | true =>
        simp only [if_true] at q9 ⊢
        refine thnF (pe.run _ s9 σ8 H9 _ I9 q9) (fun z s10 h10 => ?_)
        obtain ⟨yv, H10, I10, r10, acc, hD10, hz10, nx⟩ := h10
        exact app_ok (X := X.blk s3 H3 scope ce fp) I10 hD10 hz10 r10 (fun s11 I11 => fin I11 nx)
  exact codeAny_compStart_list loop (T.self X.A 0 _ _ _ st4 loop)
end
end Wk
/-! Own errors of one and two fields: their makers' promises, raised; defs that may let one out. -/
namespace Wk
open PySem PySem.Spec PyProof.Rows L2
/-! ### the makers -/
def spI1 (C : Addr) (f : Str) : Sp := fun vs H Q _ => ∃ (a : Addr) (y : V), vs = [.ref a, y] ∧ H a = some (exo a C none) ∧ ∀ dx, H dx = none → dx ≠ a → Q .non (upd (upd H dx (exd dx [(f, y)])) a (exo a C (some dx)))
def spI2 (C : Addr) (f g : Str) : Sp := fun vs H Q _ => ∃ (a : Addr) (y z : V), vs = [.ref a, y, z] ∧ H a = some (exo a C none) ∧
  ∀ dx, H dx = none → dx ≠ a → Q .non (upd (upd (upd H dx (exd dx [(f, y)])) a (exo a C (some dx))) dx (exd dx [(g, z), (f, y)]))
theorem takes0N {X : Cx} : L2N.Takes X (fun _ _ _ _ => False) := fun _ _ x => by
  obtain ⟨_, _, _, _, _, _, _, _, _, _, _, _, _, _, _, _, z⟩ := x
  exact z.elim
section
variable {P : Program} {w : World} {K : PySem.W.Frag} {mg : Str → Option Value} {base : Heap}
theorem okN {x qual : Str} {st : Stmt} {f : Addr} {fd : FuncData} {N ps : List Str} {k : Nat} {sp : Sp} (F : Fun K x qual st f fd) (S : FnScope N ps (defScope st)) (len : ∀ vs H Q E, sp vs H Q E → vs.length = ps.length)
    (hbody : ∀ (cdv : Value) (A : Around) (outer : List Env) (s : Shared) (H : Hp) (vs : List V) (Q : VK) (E : XK), Room k (A.deeper (envOfC qual (defScope st) s.heap.objs.size f cdv)) → sp vs H Q E →
      ∃ t, PSs (cxOf (L2N.CX P w) P w K mg base N qual (defScope st) f cdv A outer s H E) (defBody st) t ∧ t { nx := fun _ H' => Q .non H', rt := Q } (start N vs) H) :
    FnOk P w K mg base (L2N.CX P w) (k + 1) f fd ps sp := by
  obtain ⟨oc, od, kV, doc, pm, an, cdv, ct, osl, rfl, lk, hcd⟩ := F.ex
  exact fn_of lk hcd S len (fun A outer s H vs Q E hr hsp => hbody cdv A outer s H vs Q E hr hsp)
/-- behind the maker: the object is let go, its dict stands -/
theorem mk1 {H : Hp} {a dx C : Addr} {f : Str} {y : V} (na : H a = none) (hn : upd H a (exo a C none) dx = none) (ne : dx ≠ a) :
    H dx = none ∧ upd (upd (upd H a (exo a C none)) dx (exd dx [(f, y)])) a (exo a C (some dx)) a = some (exo a C (some dx)) ∧
    upd (upd (upd H a (exo a C none)) dx (exd dx [(f, y)])) a (exo a C (some dx)) dx = some (exd dx [(f, y)]) ∧
    upd (del (upd (upd (upd H a (exo a C none)) dx (exd dx [(f, y)])) a (exo a C (some dx))) a) dx (.xd [(f, y)]) = upd H dx (.xd [(f, y)]) := by
  refine ⟨by rw [upd_ne ne] at hn; exact hn, upd_same, by rw [upd_ne ne]; exact upd_same, ?_⟩
  funext c
  by_cases hc : c = dx
  · rw [hc, upd_same, upd_same]
  · rw [upd_ne hc, upd_ne hc]
    by_cases ha : c = a
    · rw [ha, del_same, na]
    · rw [del_ne ha, upd_ne ha, upd_ne hc, upd_ne ha]
theorem mk2 {H : Hp} {a dx C : Addr} {f g : Str} {y z : V} (na : H a = none) (hn : upd H a (exo a C none) dx = none) (ne : dx ≠ a) :
    H dx = none ∧ upd (upd (upd (upd H a (exo a C none)) dx (exd dx [(f, y)])) a (exo a C (some dx))) dx (exd dx [(g, z), (f, y)]) a = some (exo a C (some dx)) ∧
    upd (upd (upd (upd H a (exo a C none)) dx (exd dx [(f, y)])) a (exo a C (some dx))) dx (exd dx [(g, z), (f, y)]) dx = some (exd dx [(g, z), (f, y)]) ∧
    upd (del (upd (upd (upd (upd H a (exo a C none)) dx (exd dx [(f, y)])) a (exo a C (some dx))) dx (exd dx [(g, z), (f, y)])) a) dx (.xd [(g, z), (f, y)]) = upd H dx (.xd [(g, z), (f, y)]) := by
  refine ⟨by rw [upd_ne ne] at hn; exact hn, by rw [upd_ne ne.symm]; exact upd_same, upd_same, ?_⟩
  funext c
  by_cases hc : c = dx
  · rw [hc, upd_same, upd_same]
  · rw [upd_ne hc, upd_ne hc]
    by_cases ha : c = a
    · rw [ha, del_same, na]
    · rw [del_ne ha, upd_ne hc, upd_ne ha, upd_ne hc, upd_ne ha]
/-- what the top has written of an error's class (at c, its maker at fi) -/
structure ErrC (K : PySem.W.Frag) (mg : Str → Option Value) (nm : Str) (c fi : Addr) : Prop where
  g : mg nm = some (.ref c)
  ox : OexC K c
  xi : PySem.W.findIn K (.ref c) "__init__" = some (some (.ref fi))
  ti : PySem.W.typeIn K (.ref fi) = some (.type "function")
/-- the class's maker -/
structure ErrI (P : Program) (w : World) (K : PySem.W.Frag) (mg : Str → Option Value) (base : Heap) (fi : Addr) (fd : FuncData) (ps : List Str) (sp : Sp) : Prop where
  F : FnOk P w K mg base CX0 1 fi fd ps sp
  b : Binds K fd ps []
end
end Wk
/-! The errors' makers; _need_bounds and _need_equal_sizes, raising. -/
namespace T22
open PySem PySem.Spec PyProof.Rows L2 Wk
abbrev sTM : Stmt := inClass (top 4) 0
abbrev sTF : Stmt := inClass (top 6) 0
abbrev sUn : Stmt := inClass (top 7) 0
abbrev sEqS : Stmt := top 19
theorem scTM : FnScope ["self", "limit"] ["self", "limit"] (defScope sTM) := ⟨rfl, rfl, rfl, by decide +kernel, rfl, by decide +kernel, by decide +kernel⟩
theorem scTF : FnScope ["self", "pair"] ["self", "pair"] (defScope sTF) := ⟨rfl, rfl, rfl, by decide +kernel, rfl, by decide +kernel, by decide +kernel⟩
theorem scUn : FnScope ["self", "one", "other"] ["self", "one", "other"] (defScope sUn) := ⟨rfl, rfl, rfl, by decide +kernel, rfl, by decide +kernel, by decide +kernel⟩
theorem scES : FnScope ["one", "other"] ["one", "other"] (defScope sEqS) := ⟨rfl, rfl, rfl, by decide +kernel, rfl, by decide +kernel, by decide +kernel⟩
/-- all numbers within the bound, or the error -/
def spBoundsR (K : PySem.W.Frag) (c : Addr) : Sp := fun vs H Q E => ∃ D bs T, vs = [.ref D] ∧ H D = some (.lst bs) ∧ bs.length ≤ sizeLine ∧ Trs K H bs T ∧
  (((∀ p ∈ T, p.2.2 ≤ 1000000000) ∧ ∀ H', Same H H' → Q .non H') ∨ ((∃ p ∈ T, 1000000000 < p.2.2) ∧ ∀ H' d, Same H H' → H' d = none → E (.ref c) (some d) (upd H' d (.xd [("limit", .int 1000000000)]))))
def spEqS (K : PySem.W.Frag) (C c : Addr) : Sp := fun vs H Q E => ∃ w n T w2 n2 T2, vs = [.ref w, .ref w2] ∧ WebAt K C H w n T ∧ WebAt K C H w2 n2 T2 ∧
  ((n = n2 ∧ Q .non H) ∨ (n ≠ n2 ∧ ∀ d, H d = none → E (.ref c) (some d) (upd H d (.xd [("other", .int (n2 : Int)), ("one", .int (n : Int))]))))
section
variable {P : Program} {w : World} {K : PySem.W.Frag} {mg : Str → Option Value} {base : Heap}
theorem ok_iTM {c f : Addr} {fd : FuncData} (F : Fun K "__init__" "TooMany.__init__" sTM f fd) (ox : OexC K c) (no : PySem.W.findIn K (.ref c) "limit" = some none) : FnOk P w K mg base CX0 1 f fd ["self", "limit"] (spI1 c "limit") := by
  refine F.ok scTM (fun vs H Q E h => ?_) (fun cdv A outer s H vs Q E hr h => ?_)
  · obtain ⟨a, y, rfl, _⟩ := h
    rfl
  · obtain ⟨a, y, rfl, ha, q⟩ := h
    refine ⟨_, pss_one (ps_ost (pv 0) (pv 1)), ?_⟩
    exact ⟨_, rfl, _, rfl, a, c, rfl, ox, no, .inl ⟨ha, fun dx n ne => q dx n ne⟩⟩
theorem ok_iTF {c f : Addr} {fd : FuncData} (F : Fun K "__init__" "TooFew.__init__" sTF f fd) (ox : OexC K c) (no : PySem.W.findIn K (.ref c) "pair" = some none) : FnOk P w K mg base CX0 1 f fd ["self", "pair"] (spI1 c "pair") := by
  refine F.ok scTF (fun vs H Q E h => ?_) (fun cdv A outer s H vs Q E hr h => ?_)
  · obtain ⟨a, y, rfl, _⟩ := h
    rfl
  · obtain ⟨a, y, rfl, ha, q⟩ := h
    refine ⟨_, pss_one (ps_ost (pv 0) (pv 1)), ?_⟩
    exact ⟨_, rfl, _, rfl, a, c, rfl, ox, no, .inl ⟨ha, fun dx n ne => q dx n ne⟩⟩
theorem ok_iUn {c f : Addr} {fd : FuncData} (F : Fun K "__init__" "Unequal.__init__" sUn f fd) (ox : OexC K c) (n1 : PySem.W.findIn K (.ref c) "one" = some none) (n2 : PySem.W.findIn K (.ref c) "other" = some none) : FnOk P w K mg base CX0 1 f fd ["self", "one", "other"] (spI2 c "one" "other") := by
  refine F.ok scUn (fun vs H Q E h => ?_) (fun cdv A outer s H vs Q E hr h => ?_)
  · obtain ⟨a, y, z, rfl, _⟩ := h
    rfl
  · obtain ⟨a, y, z, rfl, ha, q⟩ := h
    refine ⟨_, pss_cons (ps_ost (pv 0) (pv 1)) (pss_one (ps_ost (pv 0) (pv 2))), ?_⟩
    refine ⟨_, rfl, _, rfl, a, c, rfl, ox, n1, .inl ⟨ha, fun dx n ne => ?_⟩⟩
    exact ⟨_, rfl, _, rfl, a, c, rfl, ox, n2, .inr ⟨dx, _, upd_same, by rw [upd_ne ne]; exact upd_same, by show 1 ≤ 900; decide, q dx n ne⟩⟩
theorem ok_boundsR {c fi f : Addr} {fd fdi : FuncData} {k : Nat} (F : Fun K "_need_bounds" "_need_bounds" sBounds f fd) (R : ErrC K mg "TooMany" c fi) (RI : ErrI P w K mg base fi fdi ["self", "limit"] (spI1 c "limit")) (ma : mg "any" = none) (mm : ∃ t, mg "MOST_TIES" = some (.int 1000000000 t)) :
    FnOk P w K mg base (L2N.CX P w) (k + 3) f fd ["bundles"] (spBoundsR K c) := by
  obtain ⟨tm, mm⟩ := mm
  refine okN F scBo (fun vs H Q E h => ?_) (fun cdv A outer s H vs Q E hr h => ?_)
  · obtain ⟨D, bs, T, rfl, _⟩ := h
    rfl
  · obtain ⟨a, bs, T, rfl, ha, hlen, hT, q⟩ := h
    refine ⟨_, pss_one (ps_if (pt_val (pe_callB (cr_any rfl) (by rfl) ma (by decide +kernel) (pa_cons
      (pe_lc (own := [("bundle", 1)]) (g := gName 1) (tt := tYes) rfl scBo.nd (pi_list (pv 0)) (blkOk_by (N := ["bundles", "bundle"]) (sc := defScope sBounds) (by decide +kernel))
        (fun _ _ _ _ _ => pg_name (i := 1) scBo.nd rfl (Or.inl rfl)) (fun _ _ _ _ _ => pts_nil) (fun _ _ _ _ _ => pe_cmpR op_gt (pe_ix (r := rIxT K) ix_tup (pv 1) pe_int (fun _ _ => rfl)) (pe_glob (v := .int 1000000000) rfl mm ⟨_, rfl⟩) (nomark _))) pa_nil)))
      (pss_one (L2N.ps_raise rfl (L2N.takes_of rfl rfl rfl rfl) (pmkN_oex R.ox R.xi R.ti RI.F (hr.mono (by omega)) RI.b pass0 rfl R.g (pa_cons (pe_glob (v := .int 1000000000) rfl mm ⟨_, rfl⟩) pa_nil)))) pss_nil), ?_⟩
    refine ⟨.ref a, rfl, a, rfl, ⟨bs, .inl (.inl ha)⟩, fun D nD => ?_⟩
    have haD : a ≠ D := ne_of_none ha nD
    have hbl : bs.length = T.length := hT.length
    refine lc_list (K := K) (a := a) (xs := bs) (fun i H2 => Ext H H2 ∧ H2 D = some (.lst (((T.take i).map fun p => decide ((1000000000 : Int) < p.2.2)).map V.bl))) ?_ (fun i H2 _ h2 => .inl (.inl (h2.1 _ _ ha))) ?_ ?_
    · exact ⟨fun b o z => by rw [upd_ne (ne_of_none z nD)]; exact z, upd_same⟩
    · rintro i x H2 hx ⟨g1, g2⟩
      obtain ⟨p, hp, t, rfl, hS⟩ := hT.get hx
      have i2 : atI [V.int p.1, V.int p.2.1, V.int p.2.2] 2 = some (.int p.2.2) := atI_nat (xs := [V.int p.1, V.int p.2.1, V.int p.2.2]) (j := 2) rfl
      refine ⟨rfl, .ref t, rfl, t, _, 2, _, rfl, rfl, hS.ext g1, i2, p.2.2, 1000000000, rfl, rfl, _, g2, ?_, ?_, ?_⟩
      · rw [List.length_map, List.length_map, List.length_take]
        have := (List.getElem?_eq_some_iff.mp hx).1
        omega
      · intro b o z
        rw [upd_ne (ne_of_none z nD)]
        exact g1 b o z
      · rw [upd_same, List.take_add_one, hp, List.map_append, List.map_append]
        rfl
    · rintro H2 ⟨g1, g2⟩
      rw [hbl, List.take_length] at g2
      refine ⟨D, _, rfl, .inl (.inl g2), _, rfl, ?_⟩
      rcases q with ⟨h1, q⟩ | ⟨⟨p, hp, h1⟩, q⟩
      · have e : (T.map fun p => decide ((1000000000 : Int) < p.2.2)).any id = false := by
          rw [List.any_map, List.any_eq_false]
          intro p hp
          have := h1 p hp
          simp only [Function.comp_apply, id, decide_eq_true_eq]
          omega
        rw [e]
        exact q H2 g1
      · have e : (T.map fun p => decide ((1000000000 : Int) < p.2.2)).any id = true := by
          rw [List.any_map, List.any_eq_true]
          exact ⟨p, hp, decide_eq_true h1⟩
        rw [e]
        refine ⟨(by show 1 ≤ 1000; decide), fun a na => ⟨a, _, rfl, upd_same, fun dx hn ne => ⟨rfl, ?_⟩⟩⟩
        obtain ⟨z0, z1, z2, z3⟩ := mk1 na hn ne
        exact ⟨dx, _, z1, z2, z0, by rw [z3]; exact q H2 dx g1 z0⟩
theorem ok_eqS {C c fi f : Addr} {fd fdi : FuncData} {k : Nat} (F : Fun K "_need_equal_sizes" "_need_equal_sizes" sEqS f fd) (T : TxtW K mg C) (R : ErrC K mg "Unequal" c fi) (RI : ErrI P w K mg base fi fdi ["self", "one", "other"] (spI2 c "one" "other")) :
    FnOk P w K mg base (L2N.CX P w) (k + 3) f fd ["one", "other"] (spEqS K C c) := by
  refine okN F scES (fun vs H Q E h => ?_) (fun cdv A outer s H vs Q E hr h => ?_)
  · obtain ⟨w, n, T, w2, n2, T2, rfl, _⟩ := h
    rfl
  · obtain ⟨w, n, TT, w2, n2, T2, rfl, hW, hW2, q⟩ := h
    obtain ⟨dx, t, ys, d, g, h1, h2, h3, h4, h5⟩ := hW.ex
    obtain ⟨dx2, t2, ys2, d2, g2, k1, k2, k3, k4, k5⟩ := hW2.ex
    refine ⟨_, pss_one (ps_if (pt_cmpR op_ne (pe_fld (pv 0) rfl) (pe_fld (pv 1) rfl) (nomark _))
      (pss_one (L2N.ps_raise rfl (L2N.takes_of rfl rfl rfl rfl) (pmkN_oex R.ox R.xi R.ti RI.F (hr.mono (by omega)) RI.b pass0 rfl R.g (pa_cons (pe_fld (pv 0) rfl) (pa_cons (pe_fld (pv 1) rfl) pa_nil))))) pss_nil), ?_⟩
    refine ⟨.ref w, rfl, w, C, dx, _, _, rfl, h1, T.cl, T.n1, lk5s _ _ _ _ _, .ref w2, rfl, w2, C, dx2, _, _, rfl, k1, T.cl, T.n1, lk5s _ _ _ _ _, rfl, _, rfl, ?_⟩
    rcases q with ⟨rfl, q⟩ | ⟨hne, q⟩
    · rw [decide_eq_true rfl]
      exact q
    · have e : decide (V.int (n : Int) = V.int (n2 : Int)) = false := decide_eq_false fun z => hne (by injection z with z; omega)
      rw [e]
      refine ⟨.ref w, rfl, w, C, dx, _, _, rfl, h1, T.cl, T.n1, lk5s _ _ _ _ _, .ref w2, rfl, w2, C, dx2, _, _, rfl, k1, T.cl, T.n1, lk5s _ _ _ _ _, (by show 2 ≤ 1000; decide), fun a na => ⟨a, _, _, rfl, upd_same, fun dx hn ne => ⟨rfl, ?_⟩⟩⟩
      obtain ⟨z0, z1, z2, z3⟩ := mk2 na hn ne
      exact ⟨dx, _, z1, z2, z0, by rw [z3]; exact q dx z0⟩
end
end T22
/-! _bundles, raising where a pair's sum is too great. -/
namespace T22
open PySem PySem.Spec PyProof.Rows L2 Wk
def spBundlesR (K : PySem.W.Frag) (c : Addr) : Sp := fun vs H Q E => ∃ n a xs ps, vs = [.ref a] ∧ n ≤ 60 ∧ SqS K H a xs ∧ Trs K H xs ps ∧ ps.length < 64 ∧ (∀ p ∈ ps, tieB p.1 p.2.1 p.2.2 n = true) ∧
  (((∀ u v, amt (ps.map norm) u v ≤ 1000000000) ∧ ∀ H' t ys T, Same H H' → H t = none → H' t = some (.tup ys) → Trs K H' ys T → TiesOf n (amt (ps.map norm)) T → ys.length < 64 → Q (.ref t) H') ∨
   ((∃ u v, 1000000000 < amt (ps.map norm) u v) ∧ ∀ H' d, Same H H' → H' d = none → E (.ref c) (some d) (upd H' d (.xd [("limit", .int 1000000000)]))))
section
variable {P : Program} {w : World} {K : PySem.W.Frag} {mg : Str → Option Value} {base : Heap}
theorem ok_bundlesR {c f fb : Addr} {fd fdb : FuncData} {k : Nat} (F : Fun K "_bundles" "_bundles" sBundles f fd) (GB : FnOk P w K mg base (L2N.CX P w) k fb fdb ["bundles"] (spBoundsR K c)) (gB : mg "_need_bounds" = some (.ref fb)) (kB : PySem.W.keepIn K (.ref fb) = true) (bB : Binds K fdb ["bundles"] [])
    (ms : mg "sorted" = none) (mi : mg "min" = none) (mx : mg "max" = none) (mt : mg "tuple" = none) : FnOk P w K mg base (L2N.CX P w) (k + 1) f fd ["ties"] (spBundlesR K c) := by
  refine okN F scBu (fun vs H Q E h => ?_) (fun cdv A outer s H vs Q E hr h => ?_)
  · obtain ⟨n, a, xs, ps, rfl, _⟩ := h
    rfl
  · obtain ⟨n, a, xs, ps, rfl, hn, hS, hT, h64, hv, hq⟩ := h
    have hu := hu_of hr
    refine ⟨_, pss_cons (ps_set (i := 1) scBu.nd rfl (Or.inl rfl) (pe_lst pa_nil))
      (pss_cons (ps_for (passes_of rfl) rfl (pi_list (pe_callB (cr_sortT (d := 3) (B := 1000000001) (by decide)) (by rfl) ms (by decide +kernel) (pa_cons
          (pe_lc (own := [("u", 2), ("v", 3), ("number", 4)]) (g := gTup K 3 (gCons (gName 2) (gCons (gName 3) (gCons (gName 4) gNil)))) (tt := tYes) rfl scBu.nd (pi_seqW (pv 0)) (blkOk_by (N := ["ties", "bundles", "u", "v", "number", "goes_on", "ahead", "bundle"]) (sc := defScope sBundles) (by decide +kernel))
            (fun _ _ _ _ _ => pg_tup rfl (pgs_cons (pg_name (i := 2) scBu.nd rfl (Or.inl rfl)) (pgs_cons (pg_name (i := 3) scBu.nd rfl (Or.inl rfl)) (pgs_cons (pg_name (i := 4) scBu.nd rfl (Or.inl rfl)) pgs_nil))))
            (fun _ _ _ _ _ => pts_nil) (fun _ _ _ _ _ => pe_tup (pa_cons (pe_callB (call_min2 rfl) (by rfl) mi (by decide +kernel) (pa_cons (pv 2) (pa_cons (pv 3) pa_nil)))
              (pa_cons (pe_callB (call_max2 rfl) (by rfl) mx (by decide +kernel) (pa_cons (pv 2) (pa_cons (pv 3) pa_nil))) (pa_cons (pv 4) pa_nil))))) pa_nil)))
          (pg_tup rfl (pgs_cons (pg_name (i := 2) scBu.nd rfl (Or.inl rfl)) (pgs_cons (pg_name (i := 3) scBu.nd rfl (Or.inl rfl)) (pgs_cons (pg_name (i := 4) scBu.nd rfl (Or.inl rfl)) pgs_nil))))
        (pss_cons (ps_set (i := 5) scBu.nd rfl (Or.inl rfl) (pe_andT (pv 1) (pe_one (pe_cmpR (op_eqD hr.units) (pe_slice sl_tupA (pe_ix ix_list (pv 1) (pe_un un_neg pe_int) (fun _ _ => rfl)) po_none (po_some pe_int)) (pe_tup (pa_cons (pv 2) (pa_cons (pv 3) pa_nil))) (nomark _)))))
        (pss_cons (ps_set (i := 6) scBu.nd rfl (Or.inl rfl) (pe_ifExp (pt_truth (pv 5) (by intro _; rfl)) (pe_ix ix_tup (pe_bm0 PySem.F.plainAttrs_list PySem.F.slot_list_pop PySem.F.type_list_pop mt_pop (pv 1)) pe_int (fun _ _ => rfl)) pe_int))
        (pss_one (ps_expr (pe_bm PySem.F.plainAttrs_list PySem.F.slot_list_append PySem.F.type_list_append mt_append (pv 1) (pa_cons (pe_tup (pa_cons (pv 2) (pa_cons (pv 3) (pa_cons (pe_op op_add (pv 6) (pv 4)) pa_nil)))) pa_nil)))))))
      (pss_cons (ps_expr (pe_call GB hr rfl gB kB bB .nil (L2N.passes_call (L2N.takes_of rfl rfl rfl rfl) (fun _ _ _ _ h => h)) (pa_cons (pv 1) pa_nil)))
      (pss_one (ps_ret (pe_callTy call_tuple_of (by rfl) mt (by decide +kernel) (pa_cons
        (pe_lc (own := [("bundle", 7)]) (g := gName 7) rfl scBu.nd (pi_list (pv 1)) (blkOk_by (N := ["ties", "bundles", "u", "v", "number", "goes_on", "ahead", "bundle"]) (sc := defScope sBundles) (by decide +kernel))
          (fun _ _ _ _ _ => pg_name (i := 7) scBu.nd rfl (Or.inl rfl)) (fun _ _ _ _ _ => pts_one (pt_cmpR op_gt (pe_ix (r := rIxT K) ix_tup (pv 7) pe_int (fun _ _ => rfl)) pe_int (nomark _))) (fun _ _ _ _ _ => pv 7)) pa_nil)))))), ?_⟩
    refine ⟨(by show 0 ≤ sizeLine; decide), fun D nD => ?_⟩
    have e1 : Ext H (upd H D (.lst [])) := same_upd nD
    -- the normal items
    refine ⟨.ref a, rfl, a, xs, rfl, hS.ext e1, fun J G W hG L nL => ?_⟩
    have nL0 : H L = none := Same.free e1 nL
    have hDL : D ≠ L := ne_of_none upd_same nL
    have hlen : xs.length = ps.length := hT.length
    refine lc_it W (fun i H2 => Ext (upd H D (.lst [])) H2 ∧ ∃ ys, H2 L = some (.lst ys) ∧ Trs K H2 ys ((ps.take i).map norm)) ⟨fun b o z => by rw [upd_ne (ne_of_none z nL)]; exact z, [], upd_same, True.intro⟩ (fun i H2 _ p => hG H2 fun o z => p.1 _ _ z) ?_ ?_
    · rintro i x H2 H3 hi ⟨g1, ys, g2, g3⟩ ⟨rfl, hx⟩
      obtain ⟨p, hp, t, rfl, hSt⟩ := hT.get hx
      have hys : ys.length = ((ps.take i).map norm).length := g3.length
      have hsz : ys.length < sizeLine := by rw [hys, List.length_map, List.length_take, sizeLine_eq]; omega
      refine ⟨t, _, rfl, hSt.ext (Ext.trans e1 g1), rfl, _, _, rfl, _, _, rfl, _, _, rfl, rfl, rfl, ?_⟩
      refine ⟨_, rfl, _, rfl, p.1, p.2.1, rfl, _, rfl, _, rfl, p.1, p.2.1, rfl, _, rfl, (by show 3 ≤ sizeLine; decide), fun T nT => ⟨ys, by rw [upd_ne (ne_of_none g2 nT)]; exact g2, hsz, ?_⟩⟩
      have hTL : T ≠ L := Ne.symm (ne_of_none g2 nT)
      have s3 : Same H3 (upd H3 T (.tup [.int (if p.2.1 < p.1 then p.2.1 else p.1), .int (if p.2.1 > p.1 then p.2.1 else p.1), .int p.2.2])) := same_upd nT
      refine ⟨fun b o z => ?_, ys ++ [.ref T], upd_same, ?_⟩
      · rw [upd_ne (ne_of_none z nL)]
        exact s3 _ _ (g1 b o z)
      · rw [List.take_add_one, hp, List.map_append]
        have bt : But L (upd H3 T (.tup [.int (if p.2.1 < p.1 then p.2.1 else p.1), .int (if p.2.1 > p.1 then p.2.1 else p.1), .int p.2.2])) (upd (upd H3 T (.tup [.int (if p.2.1 < p.1 then p.2.1 else p.1), .int (if p.2.1 > p.1 then p.2.1 else p.1), .int p.2.2])) L (.lst (ys ++ [.ref T]))) := But.upd _ _ _
        refine Trs.append (Trs.but (D := L) (bs := ys) (by rw [upd_ne (Ne.symm hTL)]; exact g2) bt (g3.same s3)) ⟨⟨T, rfl, .inl (.inl (by rw [upd_ne hTL]; exact upd_same))⟩, True.intro⟩
    · rintro H2 ⟨g1, ys0, g2, g3⟩
      rw [hlen, List.take_length] at g3
      have hbd : ∀ p ∈ ps.map norm, TS.Bd 1000000001 [p.1, p.2.1, p.2.2] := fun p hp => by
        obtain ⟨p0, h0, rfl⟩ := List.mem_map.mp hp
        have := norm_ok (hv p0 h0)
        intro m hm
        simp only [List.mem_cons, List.not_mem_nil, or_false] at hm
        rcases hm with rfl | rfl | rfl <;> omega
      refine ⟨L, ys0, rfl, .inl (.inl g2), by rw [g3.length, List.length_map]; exact h64, fun x hx => ?_, fun ys p hperm hord np => ?_⟩
      · obtain ⟨i, hi, rfl⟩ := List.mem_iff_getElem.mp hx
        obtain ⟨p, hp, tr⟩ := g3.get (List.getElem?_eq_getElem hi)
        exact ⟨_, tr.tupI, rfl, hbd p (List.mem_of_getElem? hp)⟩
      obtain ⟨qs, hqp, hTq⟩ := g3.perm hperm
      have hord' := hTq.order (fun p hp => hbd p (hqp.mem_iff.mp hp)) hord
      have hqv : ∀ q ∈ qs, 0 ≤ q.1 ∧ q.1 < q.2.1 ∧ q.2.1 < n ∧ 0 ≤ q.2.2 := fun q hq => by
        obtain ⟨p0, h0, rfl⟩ := List.mem_map.mp (hqp.mem_iff.mp hq)
        have := norm_ok (hv p0 h0)
        omega
      have hD2 : H2 D = some (.lst []) := g1 _ _ upd_same
      have hpD : p ≠ D := Ne.symm (ne_of_none hD2 np)
      have hql : qs.length < 64 := by rw [hqp.length_eq, List.length_map]; exact h64
      have hyl : ys.length = qs.length := hTq.length
      refine ⟨p, rfl, ⟨ys, .inl (.inl upd_same)⟩, ?_⟩
      refine for_list (K := K) (a := p) (xs := ys) (fun i σ H3 => (∃ v2 v3 v4 v5 v6 v7, σ = [some (.ref a), some (.ref D), v2, v3, v4, v5, v6, v7]) ∧ But D (upd H2 p (.lst ys)) H3 ∧
        ∃ bs acc, H3 D = some (.lst bs.reverse) ∧ bs.length ≤ i ∧ Trs K H3 bs acc ∧ BInv n acc (qs.take i)) ?_ (fun i σ H3 _ h => .inl (.inl (h.2.1 p _ hpD upd_same))) ?_ ?_
      · exact ⟨⟨_, _, _, _, _, _, rfl⟩, But.refl _ _, [], [], by rw [upd_ne (Ne.symm hpD)]; exact hD2, Nat.le_refl _, True.intro, BInv.nil⟩
      · rintro i x σ H3 hx ⟨⟨v2, v3, v4, v5, v6, v7, rfl⟩, bt, bs, acc, k1, k2, k3, k4⟩
        have hDp : (upd H2 p (.lst ys)) D = some (.lst []) := by rw [upd_ne (Ne.symm hpD)]; exact hD2
        obtain ⟨q0, hq0, t, rfl, hSt⟩ := (Trs.but hDp bt (hTq.same (same_upd np))).get hx
        have hil : i < 64 := by have := (List.getElem?_eq_some_iff.mp hq0).1; omega
        have hmem := List.mem_of_getElem? hq0
        have htk : qs.take (i + 1) = qs.take i ++ [q0] := by rw [List.take_add_one, hq0]; rfl
        have hbe : ∀ d ∈ qs.take i, lt2 d q0 ∨ key d q0 := fun d hd => by
          obtain ⟨j, hj, rfl⟩ := List.mem_iff_getElem.mp hd
          rw [List.length_take] at hj
          have hi' := (List.getElem?_eq_some_iff.mp hq0).1
          have e0 : qs[i] = q0 := (List.getElem?_eq_some_iff.mp hq0).2
          have := List.pairwise_iff_getElem.mp hord' j i (by omega) hi' (by omega)
          rw [List.getElem_take]
          rwa [e0] at this
        -- the turn's end: the new bundle at R
        have fin : ∀ (ah : Int) (bs' : List V) (acc' : List T3) (H4 : Hp) (R : Addr), H4 D = some (.lst bs'.reverse) → bs'.length ≤ i → Trs K H4 bs' acc' → But D H3 H4 → putR acc q0 = (q0.1, q0.2.1, ah + q0.2.2) :: acc' → H4 R = none →
            ∃ l xs y, V.ref D = .ref l ∧ [V.ref R] = [y] ∧ (upd H4 R (.tup [.int q0.1, .int q0.2.1, .int (ah + q0.2.2)])) l = some (.lst xs) ∧ xs.length < sizeLine ∧
              (But D (upd H2 p (.lst ys)) (upd (upd H4 R (.tup [.int q0.1, .int q0.2.1, .int (ah + q0.2.2)])) l (.lst (xs ++ [y]))) ∧
                ∃ bs acc, (upd (upd H4 R (.tup [.int q0.1, .int q0.2.1, .int (ah + q0.2.2)])) l (.lst (xs ++ [y]))) D = some (.lst bs.reverse) ∧ bs.length ≤ i + 1 ∧ Trs K (upd (upd H4 R (.tup [.int q0.1, .int q0.2.1, .int (ah + q0.2.2)])) l (.lst (xs ++ [y]))) bs acc ∧ BInv n acc (qs.take (i + 1))) := by
          intro ah bs' acc' H4 R j1 j2 j3 j4 j5 nR
          have hRD : R ≠ D := Ne.symm (ne_of_none j1 nR)
          have j1' : (upd H4 R (.tup [.int q0.1, .int q0.2.1, .int (ah + q0.2.2)])) D = some (.lst bs'.reverse) := by rw [upd_ne (Ne.symm hRD)]; exact j1
          refine ⟨D, _, _, rfl, rfl, j1', by rw [List.length_reverse, sizeLine_eq]; omega, bt.trans (j4.trans ((But.of (same_upd nR)).trans (But.upd _ _ _))), .ref R :: bs', (q0.1, q0.2.1, ah + q0.2.2) :: acc', by rw [upd_same, List.reverse_cons], by rw [List.length_cons]; omega, ?_, ?_⟩
          · exact ⟨⟨R, rfl, .inl (.inl (by rw [upd_ne hRD]; exact upd_same))⟩, Trs.but j1' (But.upd _ _ _) (j3.same (same_upd nR))⟩
          · rw [htk, ← j5]
            exact k4.put (hqv q0 hmem) hbe
        refine ⟨t, _, rfl, hSt, rfl, _, _, rfl, _, _, rfl, _, _, rfl, rfl, ?_⟩
        cases bs with
        | nil =>
          cases acc with
          | cons _ _ => exact k3.elim
          | nil =>
            have em : TruV K (.ref D) H3 false := .inl ⟨[], .inl (.inl k1), rfl⟩
            refine ⟨.ref D, rfl, false, em, ?_⟩
            refine ⟨.ref D, rfl, false, em, ?_⟩
            refine ⟨.ref D, rfl, .inl ⟨rfl, _, .inl (.inl k1)⟩, _, rfl, _, rfl, _, rfl, _, rfl, 0, q0.2.2, rfl, rfl, (by show 3 ≤ sizeLine; decide), fun R nR => ?_⟩
            obtain ⟨l, xs1, y1, z1, z2, z3, z4, z5⟩ := fin 0 [] [] H3 R k1 (Nat.zero_le _) True.intro (But.refl _ _) (by rw [Int.zero_add]; rfl) nR
            exact ⟨l, xs1, y1, z1, z2, z3, z4, ⟨_, _, _, _, _, _, rfl⟩, z5⟩
        | cons b r =>
          cases acc with
          | nil => exact k3.elim
          | cons c ra =>
            have k1' := k1
            rw [List.reverse_cons] at k1'
            obtain ⟨⟨tb, rfl, hSb⟩, k3r⟩ := k3
            have tr : TruV K (.ref D) H3 true := .inl ⟨_, .inl (.inl k1'), by simp⟩
            refine ⟨.ref D, rfl, true, tr, ?_⟩
            refine ⟨.ref D, rfl, 1, rfl, D, _, -1, _, rfl, rfl, .inl (.inl k1'), atI_last _ _, 2, rfl, tb, _, rfl, hSb, fun z => absurd z.2 (show ¬ (HT.sIx 3 3 (some 2) = 3) by decide), fun _ S nS => ?_⟩
            have s1 : Same H3 (upd H3 S (.tup (cutV [V.int c.1, V.int c.2.1, V.int c.2.2] none (some 2)))) := same_upd nS
            refine ⟨_, rfl, _, rfl, (by show 2 ≤ sizeLine; decide), fun S2 nS2 => ?_⟩
            have s2 : Same (upd H3 S (.tup (cutV [V.int c.1, V.int c.2.1, V.int c.2.2] none (some 2)))) (upd (upd H3 S (.tup (cutV [V.int c.1, V.int c.2.1, V.int c.2.2] none (some 2)))) S2 (.tup [.int q0.1, .int q0.2.1])) := same_upd nS2
            refine ⟨.tuple [.int c.1, .int c.2.1], .tuple [.int q0.1, .int q0.2.1], .tup (.inl (.inl (s2 _ _ upd_same))) (.cons (.int _) (.cons (.int _) .nil)), .tup (.inl (.inl upd_same)) (.cons (.int _) (.cons (.int _) .nil)), rfl, rfl, ?_⟩
            rw [eqv2]
            have s12 := s1.trans s2
            generalize upd (upd H3 S (.tup (cutV [V.int c.1, V.int c.2.1, V.int c.2.2] none (some 2)))) S2 (.tup [.int q0.1, .int q0.2.1]) = H4 at s12 ⊢
            by_cases hk : c.1 = q0.1 ∧ c.2.1 = q0.2.1
            · rw [decide_eq_true hk.1, decide_eq_true hk.2]
              refine ⟨.bl true, rfl, true, rfl, ?_⟩
              have i2 : atI [V.int c.1, V.int c.2.1, V.int c.2.2] 2 = some (.int c.2.2) := atI_nat (xs := [V.int c.1, V.int c.2.1, V.int c.2.2]) (j := 2) rfl
              have k1'' := s12 _ _ k1'
              refine ⟨.ref D, rfl, .inl ⟨rfl, _, .inl (.inl k1'')⟩, D, _, .ref tb, rfl, rfl, k1'', by simp, tb, _, 2, _, rfl, rfl, SqT.but k1'' (hSb.ext s12) (But.upd _ _ _), i2, ?_⟩
              have dl : (r.reverse ++ [V.ref tb]).dropLast = r.reverse := List.dropLast_concat
              rw [dl]
              refine ⟨.ref D, rfl, .inl ⟨rfl, _, .inl (.inl upd_same)⟩, _, rfl, _, rfl, _, rfl, _, rfl, c.2.2, q0.2.2, rfl, rfl, (by show 3 ≤ sizeLine; decide), fun R nR => ?_⟩
              obtain ⟨l, xs1, y1, z1, z2, z3, z4, z5⟩ := fin c.2.2 r ra _ R upd_same (by rw [List.length_cons] at k2; omega) (Trs.but k1'' (But.upd _ _ _) (Trs.same s12 k3r)) ((But.of s12).trans (But.upd _ _ _)) (putR_same hk) nR
              exact ⟨l, xs1, y1, z1, z2, z3, z4, ⟨_, _, _, _, _, _, rfl⟩, z5⟩
            · have e : (decide (c.1 = q0.1) && decide (c.2.1 = q0.2.1)) = false := by simpa using hk
              rw [e]
              refine ⟨.bl false, rfl, false, rfl, ?_⟩
              refine ⟨.ref D, rfl, .inl ⟨rfl, _, .inl (.inl (s12 _ _ k1'))⟩, _, rfl, _, rfl, _, rfl, _, rfl, 0, q0.2.2, rfl, rfl, (by show 3 ≤ sizeLine; decide), fun R nR => ?_⟩
              obtain ⟨l, xs1, y1, z1, z2, z3, z4, z5⟩ := fin 0 (.ref tb :: r) (c :: ra) H4 R (s12 _ _ k1) k2 ⟨⟨tb, rfl, hSb.ext s12⟩, Trs.same s12 k3r⟩ (But.of s12) (by rw [Int.zero_add]; exact putR_new hk) nR
              exact ⟨l, xs1, y1, z1, z2, z3, z4, ⟨_, _, _, _, _, _, rfl⟩, z5⟩
      · rintro σ H3 ⟨⟨v2, v3, v4, v5, v6, v7, rfl⟩, bt, bs, acc, k1, k2, k3, k4⟩
        rw [hyl] at k2
        rw [hyl, List.take_length] at k4
        have e3 : Ext H H3 := fun b o z => bt b o (ne_of_none z nD) (by
          rw [upd_ne (ne_of_none (g1 b o (e1 b o z)) np)]
          exact g1 b o (e1 b o z))
        have hbl : bs.length = acc.length := k3.length
        have tot : ∀ u v, amt qs u v = amt (ps.map norm) u v := fun u v => amt_perm hqp
        rcases hq with ⟨ham, q⟩ | ⟨⟨u0, v0, hbig⟩, q⟩
        rotate_left
        · refine ⟨_, rfl, D, bs.reverse, acc.reverse, rfl, k1, by rw [List.length_reverse, sizeLine_eq]; omega, k3.reverse, .inr ⟨?_, fun H4 d s4 nd => q _ d (Ext.trans e3 s4) nd⟩⟩
          rw [← tot, ← k4.am] at hbig
          obtain ⟨r, hr, rfl, rfl⟩ := mem_amt (T := acc) (u := u0) (v := v0) (by omega)
          have h1 := amt_mem (List.pairwise_reverse.mpr k4.desc) (List.mem_reverse.mpr hr)
          rw [amt_perm (List.reverse_perm acc)] at h1
          exact ⟨r, List.mem_reverse.mpr hr, by omega⟩
        refine ⟨_, rfl, D, bs.reverse, acc.reverse, rfl, k1, by rw [List.length_reverse, sizeLine_eq]; omega, k3.reverse, .inl ⟨fun r hr => ?_, fun H4 s4 => ?_⟩⟩
        · have hr := List.mem_reverse.mp hr
          have h1 := amt_mem (List.pairwise_reverse.mpr k4.desc) (List.mem_reverse.mpr hr)
          rw [amt_perm (List.reverse_perm acc), k4.am, tot] at h1
          have := ham r.1 r.2.1
          omega
        · have k3' := k3.reverse.same s4
          refine ⟨_, rfl, D, rfl, ⟨_, .inl (.inl (s4 _ _ k1))⟩, fun L2 nL2 => ?_⟩
          have hDL2 : D ≠ L2 := ne_of_none (s4 _ _ k1) nL2
          refine lc_list (K := K) (a := D) (xs := bs.reverse) (fun j H5 => Ext H4 H5 ∧ ∃ zs, H5 L2 = some (.lst zs) ∧ Trs K H5 zs ((acc.reverse.take j).filter fun p => decide (0 < p.2.2)) ∧ zs.length ≤ j) ?_ (fun j H5 _ h => .inl (.inl (h.1 _ _ (s4 _ _ k1)))) ?_ ?_
          · exact ⟨fun b o z => by rw [upd_ne (ne_of_none z nL2)]; exact z, [], upd_same, True.intro, Nat.le_refl _⟩
          · rintro j x H5 hx ⟨m1, zs, m2, m3, m4⟩
            obtain ⟨r, hr, t, rfl, hSt⟩ := (k3'.same m1).get hx
            have hjl : j < 64 := by
              have := (List.getElem?_eq_some_iff.mp hx).1
              rw [List.length_reverse] at this
              omega
            have i2 : atI [V.int r.1, V.int r.2.1, V.int r.2.2] 2 = some (.int r.2.2) := atI_nat (xs := [V.int r.1, V.int r.2.1, V.int r.2.2]) (j := 2) rfl
            refine ⟨rfl, .ref t, rfl, t, _, 2, _, rfl, rfl, hSt, i2, r.2.2, 0, rfl, rfl, _, rfl, ?_⟩
            have htk : acc.reverse.take (j + 1) = acc.reverse.take j ++ [r] := by rw [List.take_add_one, hr]; rfl
            by_cases hpos : 0 < r.2.2
            · rw [show decide ((0 : Int) < r.2.2) = true from decide_eq_true hpos]
              refine ⟨.ref t, rfl, zs, m2, by rw [sizeLine_eq]; omega, fun b o z => ?_, zs ++ [.ref t], upd_same, ?_, by rw [List.length_append, List.length_singleton]; omega⟩
              · rw [upd_ne (ne_of_none z nL2)]
                exact m1 b o z
              · rw [htk, List.filter_append, List.filter_cons_of_pos (by simpa using hpos)]
                exact Trs.append (Trs.but m2 (But.upd _ _ _) m3) ⟨⟨t, rfl, SqT.but m2 hSt (But.upd _ _ _)⟩, True.intro⟩
            · rw [show decide ((0 : Int) < r.2.2) = false from decide_eq_false hpos]
              refine ⟨m1, zs, m2, ?_, by omega⟩
              rw [htk, List.filter_append, List.filter_cons_of_neg (by simpa using hpos), List.filter_nil, List.append_nil]
              exact m3
          · rintro H5 ⟨m1, zs, m2, m3, m4⟩
            rw [show bs.reverse.length = acc.reverse.length by rw [List.length_reverse, List.length_reverse, hbl], List.take_length] at m3
            refine ⟨L2, zs, rfl, .inl ⟨.inl (.inl m2), fun t nt => ?_⟩⟩
            have e5 : Ext H H5 := Ext.trans e3 (Ext.trans s4 m1)
            refine q _ t zs _ (fun b o z => ?_) (Same.free e5 nt) upd_same (m3.same (same_upd nt)) ⟨k4.done.asc, k4.done.mem, fun u v => ?_⟩ (by rw [List.length_reverse] at m4; omega)
            · rw [upd_ne (ne_of_none (e5 b o z) nt)]
              exact e5 b o z
            · rw [k4.done.am, tot]
end
end T22
/-! Web.__init__, raising where a pair's sum is too great. -/
namespace T22
open PySem PySem.Spec PyProof.Rows L2 Wk
def spInitR (K : PySem.W.Frag) (C c : Addr) : Sp := fun vs H Q E => ∃ (w : Addr) (n : Nat) (a dx : Addr) (xs : List V) (ps : List T3), vs = [.ref w, .int (n : Int), .ref a] ∧ H w = some (.ins C dx []) ∧ n ≤ 60 ∧ SqS K H a xs ∧ Trs K H xs ps ∧ ps.length < 64 ∧ (∀ p ∈ ps, tieB p.1 p.2.1 p.2.2 (n : Int) = true) ∧
  (((∀ u v, amt (ps.map norm) u v ≤ 1000000000) ∧ ∀ H' T, But w H H' → TiesOf (n : Int) (amt (ps.map norm)) T → WebAt K C H' w n T → Q .non H') ∨
   ((∃ u v, 1000000000 < amt (ps.map norm) u v) ∧ ∀ H' d, But w H H' → H' d = none → E (.ref c) (some d) (upd H' d (.xd [("limit", .int 1000000000)]))))
section
variable {P : Program} {w : World} {K : PySem.W.Frag} {mg : Str → Option Value} {base : Heap}
theorem okDN {x qual : Str} {params : Arguments} {body : List Stmt} {scope : Scope} {dvs : List V} {kws : List (Str × V)} {f : Addr} {fd : FuncData} {N ps : List Str} {k : Nat} {sp : Sp} (F : FunD K x qual params body scope dvs kws f fd) (S : FnScope N ps scope)
    (len : ∀ vs H Q E, sp vs H Q E → vs.length = ps.length) (hb : ∀ (cdv : Value) (A : Around) (outer : List Env) (s : Shared) (H : Hp) (vs : List V) (Q : VK) (E : XK), Room k (A.deeper (envOfC qual scope s.heap.objs.size f cdv)) → sp vs H Q E →
      ∃ t, PSs (cxOf (L2N.CX P w) P w K mg base N qual scope f cdv A outer s H E) body t ∧ t { nx := fun _ H' => Q .non H', rt := Q } (start N vs) H) : FnOk P w K mg base (L2N.CX P w) (k + 1) f fd ps sp :=
  FunD.ok F S len fun cdv A outer s H vs Q E hr h => hb cdv A outer s H vs Q E hr h
theorem ok_initR {c C f fn fb fg aE : Addr} {fd fdn fdb fdg : FuncData} {k : Nat} (F : FunD K "__init__" "Web.__init__" (defArgs sInit) (defBody sInit) (defScope sInit) [.ref aE] [] f fd) (T : TxtW K mg C) (GN : FnOk P w K mg base CX0 k fn fdn ["size", "ties"] (spNeed K)) (gN : mg "_need_arguments" = some (.ref fn)) (kN : PySem.W.keepIn K (.ref fn) = true) (bN : Binds K fdn ["size", "ties"] [])
    (GB : FnOk P w K mg base (L2N.CX P w) k fb fdb ["ties"] (spBundlesR K c)) (gB : mg "_bundles" = some (.ref fb)) (kB : PySem.W.keepIn K (.ref fb) = true) (bB : Binds K fdb ["ties"] [])
    (GD : FnOk P w K mg base CX0 k fg fdg ["size", "numbers"] spDegrees) (gD : mg "_degrees" = some (.ref fg)) (kD : PySem.W.keepIn K (.ref fg) = true) (bD : Binds K fdg ["size", "numbers"] []) :
    FnOk P w K mg base (L2N.CX P w) (k + 1) f fd ["self", "size", "ties"] (spInitR K C c) := by
  refine okDN F scIn (fun vs H Q E h => ?_) (fun cdv A outer s H vs Q E hr h => ?_)
  · obtain ⟨w, n, a, dx, xs, ps, rfl, _⟩ := h
    rfl
  · obtain ⟨w, n, a, dx, xs, ps, rfl, hw, hn, hS, hT, h64, hv, hq⟩ := h
    have hu := hu_of hr
    refine ⟨_, pss_cons (ps_expr (pe_call GN hr rfl gN kN bN .nil pass0 (pa_cons (pv 1) (pa_cons (pv 2) pa_nil))))
      (pss_cons (ps_fld (pv 0) (pv 1) rfl)
      (pss_cons (ps_fld (pv 0) (pe_call GB hr rfl gB kB bB .nil (L2N.passes_call (L2N.takes_of rfl rfl rfl rfl) (fun _ _ _ _ h => h)) (pa_cons (pv 2) pa_nil)) rfl)
      (pss_cons (ps_fld (pv 0) (pe_callB (r := rSum K) (cr_sum rfl) (by rfl) T.msum (by decide +kernel) (pa_cons
        (pe_lc (own := [("tie", 3)]) (g := gName 3) (tt := tYes) rfl scIn.nd (pi_tup (pe_fld (pv 0) rfl)) (blkOk_by (N := ["self", "size", "ties", "tie", "u", "v", "number", "pair"]) (sc := defScope sInit) (by decide +kernel))
          (fun _ _ _ _ _ => pg_name (i := 3) scIn.nd rfl (Or.inl rfl)) (fun _ _ _ _ _ => pts_nil) (fun _ _ _ _ _ => pe_ix (r := rIxT K) ix_tup (pv 3) pe_int (fun _ _ => rfl))) pa_nil)) rfl)
      (pss_cons (ps_fld (pv 0) (pe_dc2 (own := [("u", 4), ("v", 5), ("number", 6), ("pair", 7)]) (vs1 := [7]) (g := gTup K 3 (gCons (gName 4) (gCons (gName 5) (gCons (gName 6) gNil)))) (g1 := gName 7) (wi1 := iTup K (tTup (tCons (tTup (tCons (tVar 4) (tCons (tVar 5) tNil))) (tCons (tTup (tCons (tVar 5) (tCons (tVar 4) tNil))) tNil))))
          rfl (Nat.lt_of_succ_lt hu) scIn.nd (pi_tup (pe_fld (pv 0) rfl)) (blkOk_by (N := ["self", "size", "ties", "tie", "u", "v", "number", "pair"]) (sc := defScope sInit) (by decide +kernel)) (by decide)
          (fun _ _ _ _ _ => pg_tup rfl (pgs_cons (pg_name (i := 4) scIn.nd rfl (Or.inl rfl)) (pgs_cons (pg_name (i := 5) scIn.nd rfl (Or.inl rfl)) (pgs_cons (pg_name (i := 6) scIn.nd rfl (Or.inl rfl)) pgs_nil))))
          (fun _ _ _ _ _ => pi_tup (pe_tup (pa_cons (pe_tup (pa_cons (pv 4) (pa_cons (pv 5) pa_nil))) (pa_cons (pe_tup (pa_cons (pv 5) (pa_cons (pv 4) pa_nil))) pa_nil))))
          (fun _ _ _ _ _ => pg_name (i := 7) scIn.nd rfl (Or.inl rfl)) (fun _ _ _ _ _ => pv 7) (fun _ _ _ _ _ => pv 6)) rfl)
      (pss_one (ps_fld (pv 0) (pe_call GD hr rfl gD kD bD .nil pass0 (pa_cons (pv 1) (pa_cons (pe_fld (pv 0) rfl) pa_nil))) rfl)))))), ?_⟩
    refine ⟨_, rfl, _, rfl, (n : Int), a, xs, ps, rfl, by omega, by omega, hS, hT, hv, fun H1 s1 => ?_⟩
    have hw1 := s1 _ _ hw
    refine ⟨_, rfl, .ref w, rfl, w, C, dx, [], rfl, hw1, T.cl, T.n1, (by show 0 < 1000; decide), ?_⟩
    rw [pf1]
    have b2 : But w H1 (upd H1 w (.ins C dx (F1 (.int (n : Int))))) := But.upd _ _ _
    have hS2 : SqS K (upd H1 w (.ins C dx (F1 (.int (n : Int))))) a xs := (hS.ext s1).elim (fun h => .inl (SqL.butW hw1 h b2)) fun h => .inr (SqT.butW hw1 h b2)
    rcases hq with ⟨ham, q⟩ | ⟨hbig, q⟩
    rotate_left
    · exact ⟨_, rfl, (n : Int), a, xs, ps, rfl, by omega, hS2, Trs.butW hw1 b2 (hT.same s1), h64, hv, .inr ⟨hbig, fun H3 d s3 nd => q _ d ((But.of s1).trans (b2.trans (But.of s3))) nd⟩⟩
    refine ⟨_, rfl, (n : Int), a, xs, ps, rfl, by omega, hS2, Trs.butW hw1 b2 (hT.same s1), h64, hv, .inl ⟨ham, fun H3 t ys TT s3 nt ht hTr hTi hy64 => ?_⟩⟩
    have hw3 := s3 _ _ upd_same
    have hwt : w ≠ t := ne_of_none upd_same nt
    refine ⟨.ref w, rfl, w, C, dx, _, rfl, hw3, T.cl, T.n2, (by show 1 < 1000; decide), ?_⟩
    rw [pf2]
    have b4 : But w H3 (upd H3 w (.ins C dx (F2 (.int (n : Int)) (.ref t)))) := But.upd _ _ _
    have hTr4 := Trs.butW hw3 b4 hTr
    have ht4 : (upd H3 w (.ins C dx (F2 (.int (n : Int)) (.ref t)))) t = some (.tup ys) := b4 _ _ (Ne.symm hwt) ht
    have b04 : But w H (upd H3 w (.ins C dx (F2 (.int (n : Int)) (.ref t)))) := (But.of s1).trans (b2.trans ((But.of s3).trans b4))
    have hw4 : (upd H3 w (.ins C dx (F2 (.int (n : Int)) (.ref t)))) w = some (.ins C dx (F2 (.int (n : Int)) (.ref t))) := upd_same
    generalize upd H3 w (.ins C dx (F2 (.int (n : Int)) (.ref t))) = H4 at hTr4 ht4 b04 hw4 ⊢
    -- the total
    have hyl : ys.length = TT.length := hTr4.length
    have hTl : ys.length < sizeLine := by rw [sizeLine_eq]; omega
    refine ⟨.ref w, rfl, w, C, dx, _, _, rfl, hw4, T.cl, T.n2, lk2 _ _, t, rfl, ⟨ys, .inl (.inl ht4)⟩, fun D nD => ?_⟩
    have hDt : t ≠ D := ne_of_none ht4 nD
    refine lc_tup (K := K) (a := t) (xs := ys) (fun i H5 => Ext H4 H5 ∧ H5 D = some (.lst (((TT.take i).map fun p => p.2.2).map V.int))) ⟨fun b o z => by rw [upd_ne (ne_of_none z nD)]; exact z, upd_same⟩ (fun i H5 _ h => .inl (.inl (h.1 _ _ ht4))) ?_ ?_
    · rintro i x H5 hx ⟨m1, m2⟩
      obtain ⟨p, hp, t', rfl, hSt⟩ := (hTr4.same m1).get hx
      have hi := (List.getElem?_eq_some_iff.mp hx).1
      have i2 : atI [V.int p.1, V.int p.2.1, V.int p.2.2] 2 = some (.int p.2.2) := atI_nat (xs := [V.int p.1, V.int p.2.1, V.int p.2.2]) (j := 2) rfl
      refine ⟨rfl, _, rfl, t', _, 2, _, rfl, rfl, hSt, i2, _, m2, ?_, fun b o z => ?_, ?_⟩
      · rw [List.length_map, List.length_map, List.length_take]
        omega
      · rw [upd_ne (ne_of_none z nD)]
        exact m1 b o z
      · rw [upd_same, List.take_add_one, hp, List.map_append, List.map_append]
        rfl
    rintro H5 ⟨m1, m2⟩
    rw [hyl, List.take_length] at m2
    refine ⟨D, _, rfl, .inl (.inl m2), .ref w, rfl, w, C, dx, _, rfl, m1 _ _ hw4, T.cl, T.n3, (by show 2 < 1000; decide), ?_⟩
    rw [pf3]
    have b6 : But w H5 (upd H5 w (.ins C dx (F3 (.int (n : Int)) (.ref t) (.int (TT.map fun p => p.2.2).sum)))) := But.upd _ _ _
    have hw5 := m1 _ _ hw4
    have hTr6 := Trs.butW hw5 b6 (hTr4.same m1)
    have hwt' : t ≠ w := Ne.symm hwt
    have ht6 := b6 _ _ hwt' (m1 _ _ ht4)
    have b06 := b04.trans ((But.of m1).trans b6)
    have hw6 : (upd H5 w (.ins C dx (F3 (.int (n : Int)) (.ref t) (.int (TT.map fun p => p.2.2).sum)))) w = some (.ins C dx (F3 (.int (n : Int)) (.ref t) (.int (TT.map fun p => p.2.2).sum))) := upd_same
    generalize upd H5 w (.ins C dx (F3 (.int (n : Int)) (.ref t) (.int (TT.map fun p => p.2.2).sum))) = H6 at hTr6 ht6 b06 hw6 ⊢
    -- the numbers by their pairs
    refine ⟨.ref w, rfl, w, C, dx, _, _, rfl, hw6, T.cl, T.n2, lk3 _ _ _, t, rfl, ⟨ys, .inl (.inl ht6)⟩, fun D2 nD2 => ?_⟩
    refine dc2_tup (K := K) (a := t) (xs := ys) (fun i H => Ext H6 H ∧ H D2 = some (.dT (both (TT.take i)))) ⟨fun b o z => by rw [upd_ne (ne_of_none z nD2)]; exact z, upd_same⟩ (fun i H _ h => .inl (.inl (h.1 _ _ ht6))) ?_ ?_
    · rintro i x H7 hx ⟨r1, r2⟩
      obtain ⟨p, hp, t', rfl, hSt⟩ := (hTr6.same r1).get hx
      have hi : i < TT.length := (List.getElem?_eq_some_iff.mp hp).1
      have hpe : TT[i] = p := (List.getElem?_eq_some_iff.mp hp).2
      have hpm := hTi.mem p (List.mem_of_getElem? hp)
      have hlt : ∀ q ∈ TT.take i, lt2 q p := fun q hq => by
        obtain ⟨j, hj, rfl⟩ := List.mem_iff_getElem.mp hq
        rw [List.length_take] at hj
        have := List.pairwise_iff_getElem.mp hTi.asc j i (by omega) hi (by omega)
        rw [List.getElem_take]
        rwa [hpe] at this
      have hq : ∀ q ∈ TT.take i, q.1 < q.2.1 := fun q hq => (hTi.mem q (List.mem_of_mem_take hq)).2.1
      have htk : TT.take (i + 1) = TT.take i ++ [p] := by rw [List.take_add_one, hp]; rfl
      have hbl : (both (TT.take i)).length < 200 := by rw [both_length, List.length_take]; omega
      have hbig : 1000 < sizeLine := by rw [sizeLine_eq]; decide
      refine ⟨t', _, rfl, hSt, rfl, _, _, rfl, _, _, rfl, _, _, rfl, rfl, rfl, ?_⟩
      refine ⟨_, rfl, _, rfl, (by show 2 ≤ sizeLine; decide), fun A1 n1 => ?_⟩
      refine ⟨_, rfl, _, rfl, (by show 2 ≤ sizeLine; decide), fun A2 n2 => ⟨(by show 2 ≤ sizeLine; decide), fun A3 n3 => ?_⟩⟩
      have q1 := same_upd (o := .tup [.int p.1, .int p.2.1]) n1
      have q2 := same_upd (o := .tup [.int p.2.1, .int p.1]) n2
      have q3 := same_upd (o := .tup [.ref A1, .ref A2]) n3
      have a1 := q3 _ _ (q2 _ _ (upd_same (H := H7) (a := A1) (o := .tup [.int p.1, .int p.2.1])))
      have a2 := q3 _ _ (upd_same (H := upd H7 A1 (.tup [.int p.1, .int p.2.1])) (a := A2) (o := .tup [.int p.2.1, .int p.1]))
      have d3 := q3 _ _ (q2 _ _ (q1 _ _ r2))
      have e13 : Ext H7 (upd (upd (upd H7 A1 (.tup [.int p.1, .int p.2.1])) A2 (.tup [.int p.2.1, .int p.1])) A3 (.tup [.ref A1, .ref A2])) := Ext.trans q1 (Ext.trans q2 q3)
      have a3 : (upd (upd (upd H7 A1 (.tup [.int p.1, .int p.2.1])) A2 (.tup [.int p.2.1, .int p.1])) A3 (.tup [.ref A1, .ref A2])) A3 = some (.tup [.ref A1, .ref A2]) := upd_same
      generalize upd (upd (upd H7 A1 (.tup [.int p.1, .int p.2.1])) A2 (.tup [.int p.2.1, .int p.1])) A3 (.tup [.ref A1, .ref A2]) = H8 at a1 a2 a3 d3 e13 ⊢
      have hA1 : A1 ≠ D2 := fun e => by rw [e, d3] at a1; cases a1
      have hA2 : A2 ≠ D2 := fun e => by rw [e, d3] at a2; cases a2
      have hA3 : A3 ≠ D2 := fun e => by rw [e, d3] at a3; cases a3
      refine ⟨A3, rfl, ⟨_, .inl (.inl a3)⟩, ?_⟩
      refine dc2_in (K := K) (a := A3) (xs := [.ref A1, .ref A2]) (fun j H => But D2 H8 H ∧ H D2 = some (.dT (both (TT.take i) ++ (both [p]).take j))) ⟨But.refl _ _, by rw [List.take_zero, List.append_nil]; exact d3⟩ (fun j H _ h => .inl (.inl (h.1 _ _ hA3 a3))) ?_ ?_
      · rintro j x H9 hx ⟨u1, u2⟩
        match j, hx, u2 with
        | 0, hx, u2 =>
          cases hx
          rw [List.take_zero, List.append_nil] at u2
          refine ⟨rfl, _, rfl, _, rfl, _, [.inl p.1, .inl p.2.1], A1, rfl, u1 _ _ hA1 a1, u2, by omega, u1.trans (But.upd _ _ _), ?_⟩
          rw [upd_same, putK_new (both_any fun q hm => by have := hlt q hm; have := hq q hm; unfold lt2 at *; omega)]
          rfl
        | 1, hx, u2 =>
          cases hx
          refine ⟨rfl, _, rfl, _, rfl, _, [.inl p.2.1, .inl p.1], A2, rfl, u1 _ _ hA2 a2, u2, ?_, u1.trans (But.upd _ _ _), ?_⟩
          · rw [List.length_append]
            have : ((both [p]).take 1).length ≤ 1 := List.length_take_le _ _
            omega
          · have e1 : ¬ (([.inl p.1, .inl p.2.1] : List Key) = [.inl p.2.1, .inl p.1]) := fun e => by
              injection e with e1 _
              injection e1 with e1
              omega
            rw [upd_same, putK_new (by
              rw [List.any_append, both_any fun q hm => by have := hlt q hm; have := hq q hm; unfold lt2 at *; omega]
              show (false || (decide (([.inl p.1, .inl p.2.1] : List Key) = [.inl p.2.1, .inl p.1]) || false)) = false
              rw [decide_eq_false e1]
              rfl), List.append_assoc]
            rfl
        | j + 2, hx, _ => cases hx
      · rintro H9 ⟨u1, u2⟩
        refine ⟨fun b o z => u1 b o (fun e => by rw [e, nD2] at z; cases z) (e13 _ _ (r1 b o z)), ?_⟩
        rw [htk, both_append]
        exact u2
    rintro H7 ⟨r1, r2⟩
    rw [hyl, List.take_length] at r2
    refine ⟨.ref w, rfl, w, C, dx, _, rfl, r1 _ _ hw6, T.cl, T.n4, (by show 3 < 1000; decide), ?_⟩
    rw [pf4]
    have b8 : But w H7 (upd H7 w (.ins C dx (F4 (.int (n : Int)) (.ref t) (.int (TT.map fun p => p.2.2).sum) (.ref D2)))) := But.upd _ _ _
    have hw7 := r1 _ _ hw6
    have hwD2 : D2 ≠ w := fun e => by rw [e, hw7] at r2; cases r2
    have hTr8 := Trs.butW hw7 b8 (hTr6.same r1)
    have ht8 := b8 _ _ hwt' (r1 _ _ ht6)
    have hd8 := b8 _ _ hwD2 r2
    have b08 := b06.trans ((But.of r1).trans b8)
    have hw8 : (upd H7 w (.ins C dx (F4 (.int (n : Int)) (.ref t) (.int (TT.map fun p => p.2.2).sum) (.ref D2)))) w = some (.ins C dx (F4 (.int (n : Int)) (.ref t) (.int (TT.map fun p => p.2.2).sum) (.ref D2))) := upd_same
    generalize upd H7 w (.ins C dx (F4 (.int (n : Int)) (.ref t) (.int (TT.map fun p => p.2.2).sum) (.ref D2))) = H8 at hTr8 ht8 hd8 b08 hw8 ⊢
    -- the degrees
    refine ⟨_, rfl, .ref w, rfl, w, C, dx, _, _, rfl, hw8, T.cl, T.n4, lk4 _ _ _ _, n, D2, TT, rfl, hn, hd8, fun H9 g s9 ng hg => ?_⟩
    have hw9 := s9 _ _ hw8
    have hwg : g ≠ w := fun e => by rw [e, hw9] at hg; cases hg
    refine ⟨.ref w, rfl, w, C, dx, _, rfl, hw9, T.cl, T.n5, (by show 4 < 1000; decide), ?_⟩
    rw [pf5]
    have b10 : But w H9 (upd H9 w (.ins C dx (F5 (.int (n : Int)) (.ref t) (.int (TT.map fun p => p.2.2).sum) (.ref D2) (.ref g)))) := But.upd _ _ _
    exact q _ TT (b08.trans ((But.of s9).trans b10)) hTi ⟨dx, t, ys, D2, g, upd_same, b10 _ _ hwt' (s9 _ _ ht8), Trs.butW hw9 b10 (hTr8.same s9), b10 _ _ hwD2 (s9 _ _ hd8), b10 _ _ hwg hg⟩
end
end T22
/-! The constructor's arguments, whatever they are: Wrong, BadTie. -/
namespace T22
open PySem PySem.Spec PyProof.Rows L2 Wk
abbrev sWr : Stmt := inClass (top 3) 0
abbrev sBT : Stmt := inClass (top 5) 0
theorem scWr : FnScope ["self", "place"] ["self", "place"] (defScope sWr) := ⟨rfl, rfl, rfl, by decide +kernel, rfl, by decide +kernel, by decide +kernel⟩
theorem scBT : FnScope ["self", "at"] ["self", "at"] (defScope sBT) := ⟨rfl, rfl, rfl, by decide +kernel, rfl, by decide +kernel, by decide +kernel⟩
theorem ty_same {K : PySem.W.Frag} {H H' : Hp} {x : V} {t : Value} (h : TyX K H x t) (s : Same H H') : TyX K H' x t := by
  cases h with
  | base h =>
    cases h with
    | non => exact .base .non
    | bl b => exact .base (.bl b)
    | int i => exact .base (.int i)
    | str x => exact .base (.str x)
    | flt x => exact .base (.flt x)
    | lst e => exact .base (.lst (s _ _ e))
    | frz e => exact .base (.frz (s _ _ e))
    | tup e => exact .base (.tup (s _ _ e))
    | dK e => exact .base (.dK (s _ _ e))
    | dT e => exact .base (.dT (s _ _ e))
    | ins e cl ha hn ht hm => exact .base (.ins (s _ _ e) cl ha hn ht hm)
  | byt b => exact .byt b
  | set e => exact .set (s _ _ e)
  | kList e c => exact .kList e c
  | kTuple e c => exact .kTuple e c
  | kDict e c => exact .kDict e c
  | fTuple e => exact .fTuple (s _ _ e)
  | fDict e => exact .fDict (s _ _ e)
theorem any_same {K : PySem.W.Frag} {H H' : Hp} {x : V} {t : Value} (h : AnyV K H x t) (s : Same H H') : AnyV K H' x t := ⟨ty_same h.ty s, h.int, h.bl⟩
/-- what _is_tie tells of any value -/
def TieIs (K : PySem.W.Frag) (H : Hp) (x : V) (n : Int) (b : Bool) : Prop := ∃ t, TyX K H x t ∧ ((PySem.W.kitOne K t (.type "tuple") = some false ∧ b = false) ∨ (PySem.W.kitOne K t (.type "tuple") = some true ∧ ∃ a xs, x = .ref a ∧ SqT K H a xs ∧
  ((xs.length ≠ 3 ∧ b = false) ∨ ∃ y z m ty tz tm, xs = [y, z, m] ∧ AnyV K H y ty ∧ AnyV K H z tz ∧ AnyV K H m tm ∧ b = (pairB y z n && fromToB m 0 1000000000))))
theorem TieIs.same {K : PySem.W.Frag} {H H' : Hp} {x : V} {n : Int} {b : Bool} (h : TieIs K H x n b) (s : Same H H') : TieIs K H' x n b := by
  obtain ⟨t, ty, h⟩ := h
  refine ⟨t, ty_same ty s, ?_⟩
  rcases h with h | ⟨hk, a, xs, e, hS, h⟩
  · exact .inl h
  · refine .inr ⟨hk, a, xs, e, hS.ext s, ?_⟩
    rcases h with h | ⟨y, z, m, ty, tz, tm, e, ay, az, am, hb⟩
    · exact .inl h
    · exact .inr ⟨y, z, m, ty, tz, tm, e, any_same ay s, any_same az s, any_same am s, hb⟩
def TieAll (K : PySem.W.Frag) (H : Hp) (n : Int) : List V → List Bool → Prop
  | [], [] => True
  | x :: xs, b :: bs => TieIs K H x n b ∧ TieAll K H n xs bs
  | _, _ => False
theorem TieAll.same {K : PySem.W.Frag} {H H' : Hp} {n : Int} (s : Same H H') : ∀ {xs : List V} {bs : List Bool}, TieAll K H n xs bs → TieAll K H' n xs bs
  | [], [], _ => True.intro
  | _ :: _, _ :: _, h => ⟨h.1.same s, TieAll.same s h.2⟩
  | [], _ :: _, h => h.elim
  | _ :: _, [], h => h.elim
theorem TieAll.length {K : PySem.W.Frag} {H : Hp} {n : Int} : ∀ {xs : List V} {bs : List Bool}, TieAll K H n xs bs → xs.length = bs.length
  | [], [], _ => rfl
  | _ :: _, _ :: _, h => by rw [List.length_cons, List.length_cons, TieAll.length h.2]
  | [], _ :: _, h => h.elim
  | _ :: _, [], h => h.elim
theorem TieAll.get {K : PySem.W.Frag} {H : Hp} {n : Int} : ∀ {xs : List V} {bs : List Bool} {i : Nat} {x : V}, TieAll K H n xs bs → xs[i]? = some x → ∃ b, bs[i]? = some b ∧ TieIs K H x n b
  | x :: _, b :: _, 0, _, h, e => by cases e; exact ⟨b, rfl, h.1⟩
  | _ :: _, _ :: _, i + 1, _, h, e => TieAll.get (i := i) h.2 e
  | [], [], _, _, _, e => by simp at e
  | [], _ :: _, _, _, h, _ => h.elim
  | _ :: _, [], _, _, h, _ => h.elim
def spTieA (K : PySem.W.Frag) : Sp := fun vs H Q _ => ∃ x n b, vs = [x, .int n] ∧ TieIs K H x n b ∧ ∀ H', Same H H' → Q (.bl b) H'
def raises (c : Addr) (f : Str) (i : Int) (E : XK) (H : Hp) : Prop := ∀ H' d, Same H H' → H' d = none → E (.ref c) (some d) (upd H' d (.xd [(f, .int i)]))
/-- the arguments are right, or the error that they raise -/
def spNeedR (K : PySem.W.Frag) (cW cB : Addr) : Sp := fun vs H Q E => ∃ y ty z, vs = [y, z] ∧ AnyV K H y ty ∧
  ((fromToB y 0 60 = false ∧ raises cW "place" 0 E H) ∨ ∃ n : Nat, y = .int (n : Int) ∧ n ≤ 60 ∧
    ((∃ tz, TyX K H z tz ∧ PySem.W.kitAny K tz [.type "list", .type "tuple"] = some false ∧ raises cW "place" 1 E H) ∨ ∃ a xs bs, z = .ref a ∧ SqS K H a xs ∧ TieAll K H (n : Int) xs bs ∧
      (((∀ b ∈ bs, b = true) ∧ ∀ H', Same H H' → Q .non H') ∨ ∃ i : Nat, bs[i]? = some false ∧ (∀ j, j < i → bs[j]? = some true) ∧ raises cB "at" i E H)))
section
variable {P : Program} {w : World} {K : PySem.W.Frag} {mg : Str → Option Value} {base : Heap}
theorem ok_iWr {c f : Addr} {fd : FuncData} (F : Fun K "__init__" "Wrong.__init__" sWr f fd) (ox : OexC K c) (no : PySem.W.findIn K (.ref c) "place" = some none) : FnOk P w K mg base CX0 1 f fd ["self", "place"] (spI1 c "place") := by
  refine F.ok scWr (fun vs H Q E h => ?_) (fun cdv A outer s H vs Q E hr h => ?_)
  · obtain ⟨a, y, rfl, _⟩ := h
    rfl
  · obtain ⟨a, y, rfl, ha, q⟩ := h
    refine ⟨_, pss_one (ps_ost (pv 0) (pv 1)), ?_⟩
    exact ⟨_, rfl, _, rfl, a, c, rfl, ox, no, .inl ⟨ha, fun dx n ne => q dx n ne⟩⟩
theorem ok_iBT {c f : Addr} {fd : FuncData} (F : Fun K "__init__" "BadTie.__init__" sBT f fd) (ox : OexC K c) (no : PySem.W.findIn K (.ref c) "at" = some none) : FnOk P w K mg base CX0 1 f fd ["self", "at"] (spI1 c "at") := by
  refine F.ok scBT (fun vs H Q E h => ?_) (fun cdv A outer s H vs Q E hr h => ?_)
  · obtain ⟨a, y, rfl, _⟩ := h
    rfl
  · obtain ⟨a, y, rfl, ha, q⟩ := h
    refine ⟨_, pss_one (ps_ost (pv 0) (pv 1)), ?_⟩
    exact ⟨_, rfl, _, rfl, a, c, rfl, ox, no, .inl ⟨ha, fun dx n ne => q dx n ne⟩⟩
theorem ok_tieA {f fp ff : Addr} {fd fdp fdf : FuncData} {k : Nat} (F : Fun K "_is_tie" "_is_tie" sTie f fd) (GP : FnOk P w K mg base CX0 k fp fdp ["thing", "size"] (spPair K)) (gP : mg "_is_pair" = some (.ref fp)) (kP : PySem.W.keepIn K (.ref fp) = true)
    (bP : Binds K fdp ["thing", "size"] []) (GF : FnOk P w K mg base CX0 k ff fdf ["thing", "low", "high"] (spFromTo K)) (gF : mg "is_from_to" = some (.ref ff)) (kF : PySem.W.keepIn K (.ref ff) = true) (bF : Binds K fdf ["thing", "low", "high"] [])
    (mi : mg "isinstance" = none) (mt : mg "tuple" = none) (ml : mg "len" = none) (mm : ∃ t, mg "MOST_TIES" = some (.int 1000000000 t)) : FnOk P w K mg base CX0 (k + 1) f fd ["thing", "size"] (spTieA K) := by
  obtain ⟨tm, mm⟩ := mm
  refine F.ok scTi (fun vs H Q E h => ?_) (fun cdv A outer s H vs Q E hr h => ?_)
  · obtain ⟨x, n, b, rfl, _⟩ := h
    rfl
  · obtain ⟨x, n, b, rfl, hT, q⟩ := h
    refine ⟨_, pss_cons (ps_if (PW.pt (pw_or (pt_not (pt_val (pe_callB call_isi (by rfl) mi (by decide +kernel) (pa_cons (pv 0) (pa_cons (pe_bltn (v := .ty "tuple") (u := .type "tuple") (by rfl) mt (by decide +kernel) rfl) pa_nil)))))
        (pw_or1 (pt_cmpR op_ne (pe_callB call_len_seq (by rfl) ml PySem.boot_len (pa_cons (pv 0) pa_nil)) pe_int (nomark _))))) (pss_one (ps_ret pe_bl)) pss_nil)
      (pss_one (ps_ret (pe_and (pe_call GP hr rfl gP kP bP .nil pass0 (pa_cons (pe_slice sl_tupA (pv 0) po_none (po_some pe_int)) (pa_cons (pv 1) pa_nil)))
        (pe_one (pe_call GF hr rfl gF kF bF .nil pass0 (pa_cons (pe_ix ix_tup (pv 0) pe_int (fun _ _ => rfl)) (pa_cons pe_int (pa_cons (pe_glob (v := .int 1000000000) rfl mm ⟨_, rfl⟩) pa_nil)))))))), ?_⟩
    obtain ⟨t, ty, hb⟩ := hT
    rcases hb with ⟨hk, rfl⟩ | ⟨hk, a, xs, rfl, hS, hb⟩
    · exact ⟨x, rfl, x, _, _, _, _, rfl, .ty "tuple", ty, hk, false, rfl, q _ (Same.refl _)⟩
    · refine ⟨_, rfl, _, _, _, _, _, rfl, .ty "tuple", ty, hk, true, rfl, ?_⟩
      refine ⟨_, rfl, a, xs, rfl, .inr hS, rfl, _, rfl, ?_⟩
      rcases hb with ⟨hl, rfl⟩ | ⟨y, z, m, tyy, tz, tm, rfl, ay, az, am, rfl⟩
      · have e : (!decide (V.int (xs.length : Int) = V.int 3)) = true := by
          simp only [Bool.not_eq_true', decide_eq_false_iff_not]
          intro z
          injection z with z
          exact hl (by omega)
        rw [e]
        exact q _ (Same.refl _)
      · have i2 : atI [y, z, m] 2 = some m := atI_nat (xs := [y, z, m]) (j := 2) rfl
        have e : (!decide (V.int (([y, z, m] : List V).length : Int) = V.int 3)) = false := rfl
        rw [e]
        refine ⟨.ref a, rfl, 2, rfl, a, _, rfl, hS, fun z => absurd z.2 (show ¬ (HT.sIx 3 3 (some 2) = 3) by decide), fun _ p hp => ?_⟩
        have sm : Same H (upd H p (.tup [y, z])) := same_upd hp
        refine ⟨.int n, rfl, .ref p, .type "tuple", n, pairB y z n, rfl, .base (.tup upd_same), .inr ⟨kit_tup, p, _, rfl, .inl (.inl upd_same), .inr ⟨y, z, _, _, rfl, any_same ay sm, any_same az sm, rfl⟩⟩, _, rfl, ?_⟩
        cases h1 : pairB y z n with
        | false => rw [h1] at q; exact q _ sm
        | true =>
          rw [h1] at q
          exact ⟨.ref a, rfl, a, _, 2, _, rfl, rfl, hS.ext sm, i2, _, _, 0, 1000000000, rfl, any_same am sm, q _ sm⟩
theorem ok_needR {cW cB fi fj f fp ff : Addr} {fd fdp fdf di dj : FuncData} {k : Nat} (F : Fun K "_need_arguments" "_need_arguments" sNeed f fd) (GT : FnOk P w K mg base CX0 (k + 2) fp fdp ["thing", "size"] (spTieA K)) (gT : mg "_is_tie" = some (.ref fp)) (kT : PySem.W.keepIn K (.ref fp) = true)
    (bT : Binds K fdp ["thing", "size"] []) (GF : FnOk P w K mg base CX0 (k + 2) ff fdf ["thing", "low", "high"] (spFromTo K)) (gF : mg "is_from_to" = some (.ref ff)) (kF : PySem.W.keepIn K (.ref ff) = true) (bF : Binds K fdf ["thing", "low", "high"] [])
    (R : ErrC K mg "Wrong" cW fi) (RI : ErrI P w K mg base fi di ["self", "place"] (spI1 cW "place")) (S : ErrC K mg "BadTie" cB fj) (SI : ErrI P w K mg base fj dj ["self", "at"] (spI1 cB "at"))
    (mi : mg "isinstance" = none) (mt : mg "tuple" = none) (ml : mg "list" = none) (me : mg "enumerate" = none) (mm : ∃ t, mg "MOST_PLACES" = some (.int 60 t)) : FnOk P w K mg base (L2N.CX P w) (k + 3) f fd ["size", "ties"] (spNeedR K cW cB) := by
  obtain ⟨tm, mm⟩ := mm
  refine okN F scNe (fun vs H Q E h => ?_) (fun cdv A outer s H vs Q E hr h => ?_)
  · obtain ⟨y, ty, z, rfl, _⟩ := h
    rfl
  · obtain ⟨y, ty, z, rfl, ay, q⟩ := h
    refine ⟨_, pss_cons (ps_if (pt_not (pt_val (pe_call GF hr rfl gF kF bF .nil pass0 (pa_cons (pv 0) (pa_cons pe_int (pa_cons (pe_glob (v := .int 60) rfl mm ⟨_, rfl⟩) pa_nil))))))
        (pss_one (L2N.ps_raise rfl (L2N.takes_of rfl rfl rfl rfl) (pmkN_oex R.ox R.xi R.ti RI.F (hr.mono (by omega)) RI.b pass0 rfl R.g (pa_cons pe_int pa_nil)))) pss_nil)
      (pss_cons (ps_if (pt_not (pt_val (pe_callB call_isiT (by rfl) mi (by decide +kernel) (pa_cons (pv 1) (pa_cons (pe_tup (pa_cons (pe_bltn (v := .ty "list") (u := .type "list") (by rfl) ml (by decide +kernel) rfl)
          (pa_cons (pe_bltn (v := .ty "tuple") (u := .type "tuple") (by rfl) mt (by decide +kernel) rfl) pa_nil))) pa_nil)))))
        (pss_one (L2N.ps_raise rfl (L2N.takes_of rfl rfl rfl rfl) (pmkN_oex R.ox R.xi R.ti RI.F (hr.mono (by omega)) RI.b pass0 rfl R.g (pa_cons pe_int pa_nil)))) pss_nil)
      (pss_one (ps_for (passes_of rfl) rfl (pi_enumW (by rfl) me (fun σ H Q Q' h z => by obtain ⟨v, e, q⟩ := z; exact ⟨v, e, h _ _ q⟩) (pa_cons (pv 1) pa_nil)) (pg_tup rfl (pgs_cons (pg_name (i := 2) scNe.nd rfl (Or.inl rfl)) (pgs_cons (pg_name (i := 3) scNe.nd rfl (Or.inl rfl)) pgs_nil)))
        (pss_one (ps_if (pt_not (pt_val (pe_call GT hr rfl gT kT bT .nil pass0 (pa_cons (pv 3) (pa_cons (pv 0) pa_nil)))))
          (pss_one (L2N.ps_raise rfl (L2N.takes_of rfl rfl rfl rfl) (pmkN_oex S.ox S.xi S.ti SI.F (hr.mono (by omega)) SI.b pass0 rfl S.g (pa_cons (pv 2) pa_nil)))) pss_nil))))), ?_⟩
    refine ⟨y, rfl, y, ty, 0, 60, rfl, ay, fromToB y 0 60, rfl, ?_⟩
    rcases q with ⟨hb, q⟩ | ⟨n, rfl, hn, q⟩
    · rw [hb]
      refine ⟨(by show 1 ≤ 1000; decide), fun a na => ⟨a, _, rfl, upd_same, fun dx hn ne => ⟨rfl, ?_⟩⟩⟩
      obtain ⟨z0, z1, z2, z3⟩ := mk1 na hn ne
      exact ⟨dx, _, z1, z2, z0, by rw [z3]; exact q _ dx (Same.refl _) z0⟩
    have e1 : fromToB (.int (n : Int)) 0 60 = true := by simp only [fromToB, Bool.and_eq_true, decide_eq_true_eq]; omega
    rw [e1]
    refine ⟨z, rfl, (by show 2 ≤ sizeLine; decide), fun T nT => ?_⟩
    have sm : Same H (upd H T (.tup [.ty "list", .ty "tuple"])) := same_upd nT
    rcases q with ⟨tz, tyz, hk, q⟩ | ⟨a, xs, bs, rfl, hS, hA, q⟩
    · refine ⟨_, T, _, tz, _, false, rfl, upd_same, .cons (.ty "list") (.cons (.ty "tuple") .nil), ty_same tyz sm, hk, false, rfl, ?_⟩
      refine ⟨(by show 1 ≤ 1000; decide), fun a na => ⟨a, _, rfl, upd_same, fun dx hn ne => ⟨rfl, ?_⟩⟩⟩
      obtain ⟨z0, z1, z2, z3⟩ := mk1 na hn ne
      exact ⟨dx, _, z1, z2, z0, by rw [z3]; exact q _ dx sm z0⟩
    have hkind : ∃ t, TyX K (upd H T (.tup [.ty "list", .ty "tuple"])) (.ref a) t ∧ PySem.W.kitAny K t [.type "list", .type "tuple"] = some true := by
      rcases hS.ext sm with h | h
      · exact ⟨_, Wk.SqL.tyX h, kitAny_cons (b := true) (kit_ty (r := true) (by decide +kernel)) (fun z => by cases z) (fun _ => rfl)⟩
      · exact ⟨_, Wk.SqT.tyX h, kitAny_cons (b := false) (kit_ty (r := false) (by decide +kernel)) (fun _ => kitAny_cons (b := true) (kit_ty (r := true) (by decide +kernel)) (fun z => by cases z) (fun _ => rfl)) (fun z => by cases z)⟩
    obtain ⟨t, tyt, hk⟩ := hkind
    refine ⟨_, T, _, t, _, true, rfl, upd_same, .cons (.ty "list") (.cons (.ty "tuple") .nil), tyt, hk, true, rfl, ?_⟩
    refine ⟨.ref a, rfl, a, xs, rfl, hS.ext sm, fun J G W hG => ?_⟩
    refine for_it W (fun i σ H2 => (∃ v2 v3, σ = [some (.int (n : Int)), some (.ref a), v2, v3]) ∧ Same (upd H T (.tup [.ty "list", .ty "tuple"])) H2 ∧ ∀ j, j < i → bs[j]? = some true) ⟨⟨_, _, rfl⟩, Same.refl _, fun j hj => by omega⟩ (fun i σ H2 _ p => hG H2 fun o z => p.2.1 _ _ z) ?_ ?_
    · rintro i x σ H2 H3 hi ⟨⟨v2, v3, rfl⟩, s2, hall⟩ ⟨T2, x', y, rfl, nT2, rfl, hx, hy⟩
      obtain rfl : V.int (i : Int) = x' := Option.some.inj hx
      have s3 : Same (upd H T (.tup [.ty "list", .ty "tuple"])) (upd H2 T2 (.tup [.int (i : Int), y])) := s2.trans (same_upd nT2)
      obtain ⟨b, hb, htr⟩ := hA.get hy
      refine ⟨T2, _, rfl, .inl (.inl upd_same), rfl, ?_⟩
      refine ⟨_, _, rfl, _, _, rfl, ?_⟩
      refine ⟨rfl, y, rfl, .int (n : Int), rfl, y, (n : Int), b, rfl, htr.same (sm.trans s3), fun H4 s4 => ⟨b, rfl, ?_⟩⟩
      cases b with
      | true =>
        refine ⟨⟨_, _, rfl⟩, s3.trans s4, fun j hj => ?_⟩
        by_cases e : j = i
        · rw [e]; exact hb
        · exact hall j (by omega)
      | false =>
        refine ⟨_, rfl, (by show 1 ≤ 1000; decide), fun a na => ⟨a, _, rfl, upd_same, fun dx hn ne => ⟨rfl, ?_⟩⟩⟩
        obtain ⟨z0, z1, z2, z3⟩ := mk1 na hn ne
        refine ⟨dx, _, z1, z2, z0, ?_⟩
        rw [z3]
        rcases q with ⟨hb', _⟩ | ⟨i', hi1, hi2, q⟩
        · have := hb' false (List.mem_of_getElem? hb)
          cases this
        · have : i = i' := by
            rcases Nat.lt_trichotomy i i' with h | h | h
            · have := hi2 i h
              rw [hb] at this
              cases this
            · exact h
            · have := hall i' h
              rw [hi1] at this
              cases this
          subst this
          exact q _ dx (sm.trans (s3.trans s4)) z0
    · rintro σ H2 ⟨⟨v2, v3, rfl⟩, s2, hall⟩
      rcases q with ⟨_, q⟩ | ⟨i', hi1, _, _⟩
      · exact q H2 (sm.trans s2)
      · have hl := hA.length
        have := hall i' (by have := (List.getElem?_eq_some_iff.mp hi1).1; omega)
        rw [hi1] at this
        cases this
end
end T22
/-! The constructor, whatever its arguments are. -/
namespace T22
open PySem PySem.Spec PyProof.Rows L2 Wk
theorem tr_is {K : PySem.W.Frag} {H : Hp} {x : V} {u v m n : Int} (h : Tr K H x u v m) : TieIs K H x n (tieB u v m n) := by
  obtain ⟨a, rfl, hS⟩ := h
  exact ⟨_, Wk.SqT.tyX hS, .inr ⟨kit_tup, a, _, rfl, hS, .inr ⟨_, _, _, _, _, _, rfl, any_int u, any_int v, any_int m, rfl⟩⟩⟩
theorem trs_all {K : PySem.W.Frag} {H : Hp} {n : Int} : ∀ {xs : List V} {ps : List T3}, Trs K H xs ps → (∀ p ∈ ps, tieB p.1 p.2.1 p.2.2 n = true) → TieAll K H n xs (ps.map fun _ => true)
  | [], [], _, _ => True.intro
  | _ :: _, p :: _, h, hv => ⟨by have := tr_is (n := n) h.1; rwa [hv p List.mem_cons_self] at this, trs_all h.2 fun q hq => hv q (List.mem_cons_of_mem _ hq)⟩
  | [], _ :: _, h, _ => h.elim
  | _ :: _, [], h, _ => h.elim
def spInitA (K : PySem.W.Frag) (C cW cB c : Addr) : Sp := fun vs H Q E => ∃ (w dx : Addr) (y : V) (ty : Value) (z : V), vs = [.ref w, y, z] ∧ H w = some (.ins C dx []) ∧ AnyV K H y ty ∧
  ((fromToB y 0 60 = false ∧ raises cW "place" 0 E H) ∨ ∃ n : Nat, y = .int (n : Int) ∧ n ≤ 60 ∧
    ((∃ tz, TyX K H z tz ∧ PySem.W.kitAny K tz [.type "list", .type "tuple"] = some false ∧ raises cW "place" 1 E H) ∨ ∃ a xs, z = .ref a ∧ SqS K H a xs ∧
      ((∃ (bs : List Bool) (i : Nat), TieAll K H (n : Int) xs bs ∧ bs[i]? = some false ∧ (∀ j, j < i → bs[j]? = some true) ∧ raises cB "at" i E H) ∨ ∃ ps, Trs K H xs ps ∧ ps.length < 64 ∧ (∀ p ∈ ps, tieB p.1 p.2.1 p.2.2 (n : Int) = true) ∧
        (((∀ u v, amt (ps.map norm) u v ≤ 1000000000) ∧ ∀ H' T, But w H H' → TiesOf (n : Int) (amt (ps.map norm)) T → WebAt K C H' w n T → Q .non H') ∨
         ((∃ u v, 1000000000 < amt (ps.map norm) u v) ∧ ∀ H' d, But w H H' → H' d = none → E (.ref c) (some d) (upd H' d (.xd [("limit", .int 1000000000)])))))))
section
variable {P : Program} {w : World} {K : PySem.W.Frag} {mg : Str → Option Value} {base : Heap}
theorem ok_initA {c cW cB C f fn fb fg aE : Addr} {fd fdn fdb fdg : FuncData} {k : Nat} (F : FunD K "__init__" "Web.__init__" (defArgs sInit) (defBody sInit) (defScope sInit) [.ref aE] [] f fd) (T : TxtW K mg C) (GN : FnOk P w K mg base (L2N.CX P w) k fn fdn ["size", "ties"] (spNeedR K cW cB)) (gN : mg "_need_arguments" = some (.ref fn)) (kN : PySem.W.keepIn K (.ref fn) = true) (bN : Binds K fdn ["size", "ties"] [])
    (GB : FnOk P w K mg base (L2N.CX P w) k fb fdb ["ties"] (spBundlesR K c)) (gB : mg "_bundles" = some (.ref fb)) (kB : PySem.W.keepIn K (.ref fb) = true) (bB : Binds K fdb ["ties"] [])
    (GD : FnOk P w K mg base CX0 k fg fdg ["size", "numbers"] spDegrees) (gD : mg "_degrees" = some (.ref fg)) (kD : PySem.W.keepIn K (.ref fg) = true) (bD : Binds K fdg ["size", "numbers"] []) :
    FnOk P w K mg base (L2N.CX P w) (k + 1) f fd ["self", "size", "ties"] (spInitA K C cW cB c) := by
  refine okDN F scIn (fun vs H Q E h => ?_) (fun cdv A outer s H vs Q E hr h => ?_)
  · obtain ⟨w, dx, y, ty, z, rfl, _⟩ := h
    rfl
  · obtain ⟨w, dx, y, ty, z, rfl, hw, ay, hq⟩ := h
    have hu := hu_of hr
    refine ⟨_, pss_cons (ps_expr (pe_call GN hr rfl gN kN bN .nil (L2N.passes_call (L2N.takes_of rfl rfl rfl rfl) (fun _ _ _ _ h => h)) (pa_cons (pv 1) (pa_cons (pv 2) pa_nil))))
      (pss_cons (ps_fld (pv 0) (pv 1) rfl)
      (pss_cons (ps_fld (pv 0) (pe_call GB hr rfl gB kB bB .nil (L2N.passes_call (L2N.takes_of rfl rfl rfl rfl) (fun _ _ _ _ h => h)) (pa_cons (pv 2) pa_nil)) rfl)
      (pss_cons (ps_fld (pv 0) (pe_callB (r := rSum K) (cr_sum rfl) (by rfl) T.msum (by decide +kernel) (pa_cons
        (pe_lc (own := [("tie", 3)]) (g := gName 3) (tt := tYes) rfl scIn.nd (pi_tup (pe_fld (pv 0) rfl)) (blkOk_by (N := ["self", "size", "ties", "tie", "u", "v", "number", "pair"]) (sc := defScope sInit) (by decide +kernel))
          (fun _ _ _ _ _ => pg_name (i := 3) scIn.nd rfl (Or.inl rfl)) (fun _ _ _ _ _ => pts_nil) (fun _ _ _ _ _ => pe_ix (r := rIxT K) ix_tup (pv 3) pe_int (fun _ _ => rfl))) pa_nil)) rfl)
      (pss_cons (ps_fld (pv 0) (pe_dc2 (own := [("u", 4), ("v", 5), ("number", 6), ("pair", 7)]) (vs1 := [7]) (g := gTup K 3 (gCons (gName 4) (gCons (gName 5) (gCons (gName 6) gNil)))) (g1 := gName 7) (wi1 := iTup K (tTup (tCons (tTup (tCons (tVar 4) (tCons (tVar 5) tNil))) (tCons (tTup (tCons (tVar 5) (tCons (tVar 4) tNil))) tNil))))
          rfl (Nat.lt_of_succ_lt hu) scIn.nd (pi_tup (pe_fld (pv 0) rfl)) (blkOk_by (N := ["self", "size", "ties", "tie", "u", "v", "number", "pair"]) (sc := defScope sInit) (by decide +kernel)) (by decide)
          (fun _ _ _ _ _ => pg_tup rfl (pgs_cons (pg_name (i := 4) scIn.nd rfl (Or.inl rfl)) (pgs_cons (pg_name (i := 5) scIn.nd rfl (Or.inl rfl)) (pgs_cons (pg_name (i := 6) scIn.nd rfl (Or.inl rfl)) pgs_nil))))
          (fun _ _ _ _ _ => pi_tup (pe_tup (pa_cons (pe_tup (pa_cons (pv 4) (pa_cons (pv 5) pa_nil))) (pa_cons (pe_tup (pa_cons (pv 5) (pa_cons (pv 4) pa_nil))) pa_nil))))
          (fun _ _ _ _ _ => pg_name (i := 7) scIn.nd rfl (Or.inl rfl)) (fun _ _ _ _ _ => pv 7) (fun _ _ _ _ _ => pv 6)) rfl)
      (pss_one (ps_fld (pv 0) (pe_call GD hr rfl gD kD bD .nil pass0 (pa_cons (pv 1) (pa_cons (pe_fld (pv 0) rfl) pa_nil))) rfl)))))), ?_⟩
    refine ⟨_, rfl, _, rfl, y, ty, z, rfl, ay, ?_⟩
    rcases hq with ⟨hb, q⟩ | ⟨n, rfl, hn, hq⟩
    · exact .inl ⟨hb, q⟩
    rcases hq with ⟨tz, tyz, hk, q⟩ | ⟨a, xs, rfl, hS, hq⟩
    · exact .inr ⟨n, rfl, hn, .inl ⟨tz, tyz, hk, q⟩⟩
    rcases hq with ⟨bs, i, hA, hi1, hi2, q⟩ | ⟨ps, hT, h64, hv, hq⟩
    · exact .inr ⟨n, rfl, hn, .inr ⟨a, xs, bs, rfl, hS, hA, .inr ⟨i, hi1, hi2, q⟩⟩⟩
    refine .inr ⟨n, rfl, hn, .inr ⟨a, xs, _, rfl, hS, trs_all hT hv, .inl ⟨fun b hb => ?_, fun H1 s1 => ?_⟩⟩⟩
    · obtain ⟨p, _, e⟩ := List.mem_map.mp hb
      exact e.symm
    have hw1 := s1 _ _ hw
    refine ⟨_, rfl, .ref w, rfl, w, C, dx, [], rfl, hw1, T.cl, T.n1, (by show 0 < 1000; decide), ?_⟩
    rw [pf1]
    have b2 : But w H1 (upd H1 w (.ins C dx (F1 (.int (n : Int))))) := But.upd _ _ _
    have hS2 : SqS K (upd H1 w (.ins C dx (F1 (.int (n : Int))))) a xs := (hS.ext s1).elim (fun h => .inl (SqL.butW hw1 h b2)) fun h => .inr (SqT.butW hw1 h b2)
    rcases hq with ⟨ham, q⟩ | ⟨hbig, q⟩
    rotate_left
    · exact ⟨_, rfl, (n : Int), a, xs, ps, rfl, by omega, hS2, Trs.butW hw1 b2 (hT.same s1), h64, hv, .inr ⟨hbig, fun H3 d s3 nd => q _ d ((But.of s1).trans (b2.trans (But.of s3))) nd⟩⟩
    refine ⟨_, rfl, (n : Int), a, xs, ps, rfl, by omega, hS2, Trs.butW hw1 b2 (hT.same s1), h64, hv, .inl ⟨ham, fun H3 t ys TT s3 nt ht hTr hTi hy64 => ?_⟩⟩
    have hw3 := s3 _ _ upd_same
    have hwt : w ≠ t := ne_of_none upd_same nt
    refine ⟨.ref w, rfl, w, C, dx, _, rfl, hw3, T.cl, T.n2, (by show 1 < 1000; decide), ?_⟩
    rw [pf2]
    have b4 : But w H3 (upd H3 w (.ins C dx (F2 (.int (n : Int)) (.ref t)))) := But.upd _ _ _
    have hTr4 := Trs.butW hw3 b4 hTr
    have ht4 : (upd H3 w (.ins C dx (F2 (.int (n : Int)) (.ref t)))) t = some (.tup ys) := b4 _ _ (Ne.symm hwt) ht
    have b04 : But w H (upd H3 w (.ins C dx (F2 (.int (n : Int)) (.ref t)))) := (But.of s1).trans (b2.trans ((But.of s3).trans b4))
    have hw4 : (upd H3 w (.ins C dx (F2 (.int (n : Int)) (.ref t)))) w = some (.ins C dx (F2 (.int (n : Int)) (.ref t))) := upd_same
    generalize upd H3 w (.ins C dx (F2 (.int (n : Int)) (.ref t))) = H4 at hTr4 ht4 b04 hw4 ⊢
    -- the total
    have hyl : ys.length = TT.length := hTr4.length
    have hTl : ys.length < sizeLine := by rw [sizeLine_eq]; omega
    refine ⟨.ref w, rfl, w, C, dx, _, _, rfl, hw4, T.cl, T.n2, lk2 _ _, t, rfl, ⟨ys, .inl (.inl ht4)⟩, fun D nD => ?_⟩
    have hDt : t ≠ D := ne_of_none ht4 nD
    refine lc_tup (K := K) (a := t) (xs := ys) (fun i H5 => Ext H4 H5 ∧ H5 D = some (.lst (((TT.take i).map fun p => p.2.2).map V.int))) ⟨fun b o z => by rw [upd_ne (ne_of_none z nD)]; exact z, upd_same⟩ (fun i H5 _ h => .inl (.inl (h.1 _ _ ht4))) ?_ ?_
    · rintro i x H5 hx ⟨m1, m2⟩
      obtain ⟨p, hp, t', rfl, hSt⟩ := (hTr4.same m1).get hx
      have hi := (List.getElem?_eq_some_iff.mp hx).1
      have i2 : atI [V.int p.1, V.int p.2.1, V.int p.2.2] 2 = some (.int p.2.2) := atI_nat (xs := [V.int p.1, V.int p.2.1, V.int p.2.2]) (j := 2) rfl
      refine ⟨rfl, _, rfl, t', _, 2, _, rfl, rfl, hSt, i2, _, m2, ?_, fun b o z => ?_, ?_⟩
      · rw [List.length_map, List.length_map, List.length_take]
        omega
      · rw [upd_ne (ne_of_none z nD)]
        exact m1 b o z
      · rw [upd_same, List.take_add_one, hp, List.map_append, List.map_append]
        rfl
    rintro H5 ⟨m1, m2⟩
    rw [hyl, List.take_length] at m2
    refine ⟨D, _, rfl, .inl (.inl m2), .ref w, rfl, w, C, dx, _, rfl, m1 _ _ hw4, T.cl, T.n3, (by show 2 < 1000; decide), ?_⟩
    rw [pf3]
    have b6 : But w H5 (upd H5 w (.ins C dx (F3 (.int (n : Int)) (.ref t) (.int (TT.map fun p => p.2.2).sum)))) := But.upd _ _ _
    have hw5 := m1 _ _ hw4
    have hTr6 := Trs.butW hw5 b6 (hTr4.same m1)
    have hwt' : t ≠ w := Ne.symm hwt
    have ht6 := b6 _ _ hwt' (m1 _ _ ht4)
    have b06 := b04.trans ((But.of m1).trans b6)
    have hw6 : (upd H5 w (.ins C dx (F3 (.int (n : Int)) (.ref t) (.int (TT.map fun p => p.2.2).sum)))) w = some (.ins C dx (F3 (.int (n : Int)) (.ref t) (.int (TT.map fun p => p.2.2).sum))) := upd_same
    generalize upd H5 w (.ins C dx (F3 (.int (n : Int)) (.ref t) (.int (TT.map fun p => p.2.2).sum))) = H6 at hTr6 ht6 b06 hw6 ⊢
    -- the numbers by their pairs
    refine ⟨.ref w, rfl, w, C, dx, _, _, rfl, hw6, T.cl, T.n2, lk3 _ _ _, t, rfl, ⟨ys, .inl (.inl ht6)⟩, fun D2 nD2 => ?_⟩
    refine dc2_tup (K := K) (a := t) (xs := ys) (fun i H => Ext H6 H ∧ H D2 = some (.dT (both (TT.take i)))) ⟨fun b o z => by rw [upd_ne (ne_of_none z nD2)]; exact z, upd_same⟩ (fun i H _ h => .inl (.inl (h.1 _ _ ht6))) ?_ ?_
    · rintro i x H7 hx ⟨r1, r2⟩
      obtain ⟨p, hp, t', rfl, hSt⟩ := (hTr6.same r1).get hx
      have hi : i < TT.length := (List.getElem?_eq_some_iff.mp hp).1
      have hpe : TT[i] = p := (List.getElem?_eq_some_iff.mp hp).2
      have hpm := hTi.mem p (List.mem_of_getElem? hp)
      have hlt : ∀ q ∈ TT.take i, lt2 q p := fun q hq => by
        obtain ⟨j, hj, rfl⟩ := List.mem_iff_getElem.mp hq
        rw [List.length_take] at hj
        have := List.pairwise_iff_getElem.mp hTi.asc j i (by omega) hi (by omega)
        rw [List.getElem_take]
        rwa [hpe] at this
      have hq : ∀ q ∈ TT.take i, q.1 < q.2.1 := fun q hq => (hTi.mem q (List.mem_of_mem_take hq)).2.1
      have htk : TT.take (i + 1) = TT.take i ++ [p] := by rw [List.take_add_one, hp]; rfl
      have hbl : (both (TT.take i)).length < 200 := by rw [both_length, List.length_take]; omega
      have hbig : 1000 < sizeLine := by rw [sizeLine_eq]; decide
      refine ⟨t', _, rfl, hSt, rfl, _, _, rfl, _, _, rfl, _, _, rfl, rfl, rfl, ?_⟩
      refine ⟨_, rfl, _, rfl, (by show 2 ≤ sizeLine; decide), fun A1 n1 => ?_⟩
      refine ⟨_, rfl, _, rfl, (by show 2 ≤ sizeLine; decide), fun A2 n2 => ⟨(by show 2 ≤ sizeLine; decide), fun A3 n3 => ?_⟩⟩
      have q1 := same_upd (o := .tup [.int p.1, .int p.2.1]) n1
      have q2 := same_upd (o := .tup [.int p.2.1, .int p.1]) n2
      have q3 := same_upd (o := .tup [.ref A1, .ref A2]) n3
      have a1 := q3 _ _ (q2 _ _ (upd_same (H := H7) (a := A1) (o := .tup [.int p.1, .int p.2.1])))
      have a2 := q3 _ _ (upd_same (H := upd H7 A1 (.tup [.int p.1, .int p.2.1])) (a := A2) (o := .tup [.int p.2.1, .int p.1]))
      have d3 := q3 _ _ (q2 _ _ (q1 _ _ r2))
      have e13 : Ext H7 (upd (upd (upd H7 A1 (.tup [.int p.1, .int p.2.1])) A2 (.tup [.int p.2.1, .int p.1])) A3 (.tup [.ref A1, .ref A2])) := Ext.trans q1 (Ext.trans q2 q3)
      have a3 : (upd (upd (upd H7 A1 (.tup [.int p.1, .int p.2.1])) A2 (.tup [.int p.2.1, .int p.1])) A3 (.tup [.ref A1, .ref A2])) A3 = some (.tup [.ref A1, .ref A2]) := upd_same
      generalize upd (upd (upd H7 A1 (.tup [.int p.1, .int p.2.1])) A2 (.tup [.int p.2.1, .int p.1])) A3 (.tup [.ref A1, .ref A2]) = H8 at a1 a2 a3 d3 e13 ⊢
      have hA1 : A1 ≠ D2 := fun e => by rw [e, d3] at a1; cases a1
      have hA2 : A2 ≠ D2 := fun e => by rw [e, d3] at a2; cases a2
      have hA3 : A3 ≠ D2 := fun e => by rw [e, d3] at a3; cases a3
      refine ⟨A3, rfl, ⟨_, .inl (.inl a3)⟩, ?_⟩
      refine dc2_in (K := K) (a := A3) (xs := [.ref A1, .ref A2]) (fun j H => But D2 H8 H ∧ H D2 = some (.dT (both (TT.take i) ++ (both [p]).take j))) ⟨But.refl _ _, by rw [List.take_zero, List.append_nil]; exact d3⟩ (fun j H _ h => .inl (.inl (h.1 _ _ hA3 a3))) ?_ ?_
      · rintro j x H9 hx ⟨u1, u2⟩
        match j, hx, u2 with
        | 0, hx, u2 =>
          cases hx
          rw [List.take_zero, List.append_nil] at u2
          refine ⟨rfl, _, rfl, _, rfl, _, [.inl p.1, .inl p.2.1], A1, rfl, u1 _ _ hA1 a1, u2, by omega, u1.trans (But.upd _ _ _), ?_⟩
          rw [upd_same, putK_new (both_any fun q hm => by have := hlt q hm; have := hq q hm; unfold lt2 at *; omega)]
          rfl
        | 1, hx, u2 =>
          cases hx
          refine ⟨rfl, _, rfl, _, rfl, _, [.inl p.2.1, .inl p.1], A2, rfl, u1 _ _ hA2 a2, u2, ?_, u1.trans (But.upd _ _ _), ?_⟩
          · rw [List.length_append]
            have : ((both [p]).take 1).length ≤ 1 := List.length_take_le _ _
            omega
          · have e1 : ¬ (([.inl p.1, .inl p.2.1] : List Key) = [.inl p.2.1, .inl p.1]) := fun e => by
              injection e with e1 _
              injection e1 with e1
              omega
            rw [upd_same, putK_new (by
              rw [List.any_append, both_any fun q hm => by have := hlt q hm; have := hq q hm; unfold lt2 at *; omega]
              show (false || (decide (([.inl p.1, .inl p.2.1] : List Key) = [.inl p.2.1, .inl p.1]) || false)) = false
              rw [decide_eq_false e1]
              rfl), List.append_assoc]
            rfl
        | j + 2, hx, _ => cases hx
      · rintro H9 ⟨u1, u2⟩
        refine ⟨fun b o z => u1 b o (fun e => by rw [e, nD2] at z; cases z) (e13 _ _ (r1 b o z)), ?_⟩
        rw [htk, both_append]
        exact u2
    rintro H7 ⟨r1, r2⟩
    rw [hyl, List.take_length] at r2
    refine ⟨.ref w, rfl, w, C, dx, _, rfl, r1 _ _ hw6, T.cl, T.n4, (by show 3 < 1000; decide), ?_⟩
    rw [pf4]
    have b8 : But w H7 (upd H7 w (.ins C dx (F4 (.int (n : Int)) (.ref t) (.int (TT.map fun p => p.2.2).sum) (.ref D2)))) := But.upd _ _ _
    have hw7 := r1 _ _ hw6
    have hwD2 : D2 ≠ w := fun e => by rw [e, hw7] at r2; cases r2
    have hTr8 := Trs.butW hw7 b8 (hTr6.same r1)
    have ht8 := b8 _ _ hwt' (r1 _ _ ht6)
    have hd8 := b8 _ _ hwD2 r2
    have b08 := b06.trans ((But.of r1).trans b8)
    have hw8 : (upd H7 w (.ins C dx (F4 (.int (n : Int)) (.ref t) (.int (TT.map fun p => p.2.2).sum) (.ref D2)))) w = some (.ins C dx (F4 (.int (n : Int)) (.ref t) (.int (TT.map fun p => p.2.2).sum) (.ref D2))) := upd_same
    generalize upd H7 w (.ins C dx (F4 (.int (n : Int)) (.ref t) (.int (TT.map fun p => p.2.2).sum) (.ref D2))) = H8 at hTr8 ht8 hd8 b08 hw8 ⊢
    -- the degrees
    refine ⟨_, rfl, .ref w, rfl, w, C, dx, _, _, rfl, hw8, T.cl, T.n4, lk4 _ _ _ _, n, D2, TT, rfl, hn, hd8, fun H9 g s9 ng hg => ?_⟩
    have hw9 := s9 _ _ hw8
    have hwg : g ≠ w := fun e => by rw [e, hw9] at hg; cases hg
    refine ⟨.ref w, rfl, w, C, dx, _, rfl, hw9, T.cl, T.n5, (by show 4 < 1000; decide), ?_⟩
    rw [pf5]
    have b10 : But w H9 (upd H9 w (.ins C dx (F5 (.int (n : Int)) (.ref t) (.int (TT.map fun p => p.2.2).sum) (.ref D2) (.ref g)))) := But.upd _ _ _
    exact q _ TT (b08.trans ((But.of s9).trans b10)) hTi ⟨dx, t, ys, D2, g, upd_same, b10 _ _ hwt' (s9 _ _ ht8), Trs.butW hw9 b10 (hTr8.same s9), b10 _ _ hwD2 (s9 _ _ hd8), b10 _ _ hwg hg⟩
end
end T22
/-! +, - of two objects of one own class, and *, by the class's own methods. -/
namespace Wk
open PySem PySem.Spec PyProof.Rows L2
theorem int_mul_obj (a : Int) (t : Tok) (x C dx : Addr) :
    Meets (Builtin.«int.__mul__» ⟨[.int a t, .ref x], []⟩) (fun _ R s => s.heap.get? x = some (PySem.W.instObj C dx) ∧ R (.ok (.ret Value.notImplemented)) s) :=
  .of_wp fun prog w A R s h => by obtain ⟨hp, g, d, tk, os⟩ := s; obtain ⟨hl, h⟩ := h; wp_walk; exact ⟨_, rfl, h⟩
section
variable {X : Cx} {CX : CXT} {k : Nat} {C f : Addr} {fd : FuncData} {ps : List Str} {sp : Sp} {E : XK}
/-- o + y and the like: the method's answer is no NotImplemented -/
def rBinO (C : Addr) (sp : Sp) (E : XK) : R2 := fun x y H Q => ∃ a b dx dy fs gs, x = .ref a ∧ y = .ref b ∧ H a = some (.ins C dx fs) ∧ H b = some (.ins C dy gs) ∧ sp [.ref a, .ref b] H (fun v H' => ∃ c, v = .ref c ∧ Q (.ref c) H') E
theorem op_binO {op : Operator} (F : FnOk X.prog X.w X.K X.mg X.base CX k f fd ps sp) (hr : Room k X.A) (hb : Binds X.K fd ps []) (hx : Passes CX X E) (hc : PySem.W.selfFirst X.K C = true)
    (hs : PySem.W.findIn X.K (.ref C) (PySem.dunder op.info.2) = some (some (.ref f))) (hf : PySem.W.isFn X.K (.ref f) = true) : OpR X (binaryOp op) (rBinO C sp E) := by
  intro pins s σ H x y v u Q I rx ry h
  obtain ⟨a, b, dx, dy, fs, gs, rfl, rfl, ha, hb2, h⟩ := h
  cases (show v = Value.ref a from rx)
  cases (show u = Value.ref b from ry)
  obtain ⟨mA, J, _⟩ := ins_get I.hok ha
  obtain ⟨od, J, _⟩ := J.look
  obtain ⟨mB, J2, _⟩ := ins_get I.hok hb2
  obtain ⟨od2, J2, _⟩ := J2.look
  obtain ⟨m, hF⟩ := I.fr
  refine PySem.W.binop_K hF I.ok.mod.kin J J2.type hc hs hf (wpAny_mono (dun_call F rfl hr hb hx I (.cons (show RelV (.ref a) (.ref a) from rfl) (.cons (show RelV (.ref b) (.ref b) from rfl) .nil)) h) (fun r s' z => ?_) fun _ _ e => e)
  obtain ⟨z, H', I', rz, c, ez, q⟩ := z
  subst ez
  cases (show r = Value.ref c from rz)
  exact ⟨.ref c, H', I', rfl, q⟩
/-- o * k -/
def rBinI (C : Addr) (sp : Sp) (E : XK) : R2 := fun x y H Q => ∃ a i dx fs, x = .ref a ∧ y = .int i ∧ H a = some (.ins C dx fs) ∧ sp [.ref a, .int i] H (fun v H' => ∃ c, v = .ref c ∧ Q (.ref c) H') E
theorem op_binI {op : Operator} {fo ro rc : Option Value} (F : FnOk X.prog X.w X.K X.mg X.base CX k f fd ps sp) (hr : Room k X.A) (hb : Binds X.K fd ps []) (hx : Passes CX X E) (hc : PySem.W.selfFirst X.K C = true)
    (hs : PySem.W.findIn X.K (.ref C) (PySem.dunder op.info.2) = some (some (.ref f))) (hf : PySem.W.isFn X.K (.ref f) = true) (hr' : PySem.W.findIn X.K (.ref C) (dunderR op.info.2) = some rc) (hp : rc = none ∨ ∃ g : Addr, rc = some (.ref g))
    (h1 : PySem.W.findIn X.K (.type "int") (PySem.dunder op.info.2) = some fo) (h2 : PySem.W.findIn X.K (.type "int") (dunderR op.info.2) = some ro) (hsub : PySem.W.subIn X.K (.type "int") (.ref C) = some false) : OpR X (binaryOp op) (rBinI C sp E) := by
  intro pins s σ H x y v u Q I rx ry h
  obtain ⟨a, i, dx, fs, rfl, rfl, ha, h⟩ := h
  cases (show v = Value.ref a from rx)
  obtain ⟨t, rfl⟩ := (show ∃ t, u = Value.int i t from ry)
  obtain ⟨mA, J, _⟩ := ins_get I.hok ha
  obtain ⟨od, J, _⟩ := J.look
  obtain ⟨m, hF⟩ := I.fr
  refine PySem.W.ksp_binT (T := "int") hF I.ok.mod.kin J rfl hc hs hf hr' hp h1 h2 hsub (wpAny_mono (dun_call F rfl hr hb hx I (.cons (show RelV (.ref a) (.ref a) from rfl) (.cons ry .nil)) h) (fun r s' z => ?_) fun _ _ e => e)
  obtain ⟨z, H', I', rz, c, ez, q⟩ := z
  subst ez
  cases (show r = Value.ref c from rz)
  exact ⟨.ref c, H', I', rfl, q⟩
/-- k * o: the int declines, then the class's own method -/
theorem rmul_own {prog : Program} {w : World} {A : Around} {E : Value → Shared → Prop} {s : Shared} {K : PySem.W.Frag} {x C f dx : Addr} {od : Option Obj} {i : Int} {t : Tok} {Q : Value → Shared → Prop}
    (Xk : K.In s.heap) (I : PySem.W.InstAt s.heap x (PySem.W.instObj C dx) C od) (hc : PySem.W.selfFirst K C = true) (hm : PySem.W.findIn K (.ref C) "__mul__" = some (some (.ref f))) {g : Addr}
    (hs : PySem.W.findIn K (.ref C) "__rmul__" = some (some (.ref g))) (hf : PySem.W.isFn K (.ref g) = true) (hsub : PySem.W.subIn K (.ref C) (.type "int") = some false)
    (h : wpAny (model prog w) A (call (.ref g) [.ref x, .int i t]) (PySem.W.CmpBack Q) E s) : wpAny (model prog w) A (binaryOp .Mult (.int i t) (.ref x)) Q E s := by
  obtain ⟨cd, rest, hcd, hmm⟩ := PySem.W.ksp_first hc
  have one := PySem.W.ksp_try Xk I hs hf h
  have hat := I.at_
  obtain ⟨hh, gg, d, tt, os⟩ := s
  have L1 : PySem.W.Looks (model prog w) hh (typeOf (.ref x)) (.ref C) := I.type
  have L2 : PySem.W.Looks (model prog w) hh (typeOf (.int i t)) (.type "int") := PySem.W.Looks.of_pure rfl
  have L3 : PySem.W.Looks (model prog w) hh (fillsNumberSlot (.ref C) "mul") true := PySem.W.fills_K Xk hcd hmm hm
  have L4 : PySem.W.Looks (model prog w) hh (fillsNumberSlot (.type "int") "mul") true := PySem.W.Looks.of_pure F.fills_int_mul
  have L5 : PySem.W.Looks (model prog w) hh (isSubtype (.ref C) (.type "int")) false := PySem.W.looks_subIn Xk hsub
  have L7 : PySem.W.Looks (model prog w) hh (numberSlotInPython (.type "int") "mul") false := PySem.W.Looks.of_pure rfl
  have hne : (Value.type "int" == Value.ref C) = false := Bool.eq_false_iff.mpr fun q => by cases beq_iff_eq.mp q
  show wpAny _ _ (binaryOp .Mult (.int i t) (.ref x)) _ _ _
  unfold binaryOp
  refine wpAny_holding (wpAny_bind ?_)
  unfold binaryOp1
  refine wpAny_bind (L2.at (wpAny_bind (L1.at (wpAny_bind (L4.at ?_)))))
  simp only [hne, Bool.false_eq_true, if_false]
  ksp_lk
  refine wpAny_tryMethod_declines (typeIs_int _ i t) F.slot_int_mul (call_meets F.slot_int_mul (typeIs_int _ i t) F.entry_int_mul (F.args_int_mul_2 _ _) (int_mul_obj i t x C dx) ⟨hat, rfl, ?_⟩)
  ksp_lk
  refine wpAny_mono one (fun r s' hr' => ?_) fun _ _ e => e
  obtain ⟨v, rfl, hq⟩ := hr'
  ksp_lk
  exact hq
end
section
variable {X : Cx} {CX : CXT} {k : Nat} {C f : Addr} {fd : FuncData} {ps : List Str} {sp : Sp} {E : L2.St → XK}
/-- a dunder called where what may fly is told by the state -/
theorem dun_callS {A : Around} {pins : List (Addr × Obj)} {σ : L2.St} {H : Hp} {s : Shared} {vs : List V} {us : List Value} {Q : VK} {E : XK} (F : FnOk X.prog X.w X.K X.mg X.base CX k f fd ps sp)
    (hA : A.frames = X.A.frames) (hr : Room k A) (hb : Binds X.K fd ps []) (hx : PassesAt CX X σ E) (I : Inv X pins σ H s) (rv : Vals vs us) (h : sp vs H Q E) :
    wpAny (model X.prog X.w) A (call (.ref f) us) (EP X pins σ Q) X.xe s := by
  have e0 : Env0 X.prog X.w X.K X.mg X.base A X.stack s H := by
    have e := I.env0
    exact ⟨by rw [hA]; exact e.frames, e.mod, e.bs, e.bsz, e.funs, e.frf, e.hok, e.bare⟩
  have hl := F.len _ _ _ _ h
  refine wpAny_call (codeAny_mono (F.run A X.stack s H ⟨us, []⟩ us vs _ E hr e0 (by
    have := hb s us I.kIn (by rw [List.append_nil, ← rv.length]; exact hl)
    simpa using this) rv h) fun r s' hq => ?_)
  cases r with
  | error e => exact hx pins H s e s' I hq
  | ok fl =>
    cases fl with
    | ret w =>
      obtain ⟨z, H', I', rz, q⟩ := I.after hq
      exact ⟨z, H', I', rz, q⟩
    | next => exact False.elim hq
    | brk => exact False.elim hq
    | cont => exact False.elim hq
theorem pe_binO {op : Operator} {a b : Expr} {ta tb : TE} {pos : Pos} (F : FnOk X.prog X.w X.K X.mg X.base CX k f fd ps sp) (hr : Room k X.A) (hb : Binds X.K fd ps []) (hx : ∀ σ, PassesAt CX X σ (E σ)) (hc : PySem.W.selfFirst X.K C = true)
    (hs : PySem.W.findIn X.K (.ref C) (PySem.dunder op.info.2) = some (some (.ref f))) (hf : PySem.W.isFn X.K (.ref f) = true) (ha : PE X a ta) (hb' : PE X b tb) : PE X (.BinOp a op b pos) (fun σ H Q => tOp (rBinO C sp (E σ)) ta tb σ H Q) := by
  refine ⟨fun pins s σ H Q I h => ?_⟩
  refine wpAny_BinOp (binT ha hb' I h fun v u s2 x y H2 I2 rx ry h => ?_)
  obtain ⟨a, b, dx, dy, fs, gs, rfl, rfl, ha, hb2, h⟩ := h
  cases (show v = Value.ref a from rx)
  cases (show u = Value.ref b from ry)
  obtain ⟨mA, J, _⟩ := ins_get I2.hok ha
  obtain ⟨od, J, _⟩ := J.look
  obtain ⟨mB, J2, _⟩ := ins_get I2.hok hb2
  obtain ⟨od2, J2, _⟩ := J2.look
  obtain ⟨m, hF⟩ := I2.fr
  refine PySem.W.binop_K hF I2.ok.mod.kin J J2.type hc hs hf (wpAny_mono (dun_callS F rfl hr hb (hx σ) I2 (.cons (show RelV (.ref a) (.ref a) from rfl) (.cons (show RelV (.ref b) (.ref b) from rfl) .nil)) h) (fun r s' z => ?_) fun _ _ e => e)
  obtain ⟨z, H', I', rz, c, ez, q⟩ := z
  subst ez
  cases (show r = Value.ref c from rz)
  exact ⟨.ref c, H', I', rfl, q⟩
theorem pe_binI {op : Operator} {fo ro rc : Option Value} {a b : Expr} {ta tb : TE} {pos : Pos} (F : FnOk X.prog X.w X.K X.mg X.base CX k f fd ps sp) (hr : Room k X.A) (hb : Binds X.K fd ps []) (hx : ∀ σ, PassesAt CX X σ (E σ)) (hc : PySem.W.selfFirst X.K C = true)
    (hs : PySem.W.findIn X.K (.ref C) (PySem.dunder op.info.2) = some (some (.ref f))) (hf : PySem.W.isFn X.K (.ref f) = true) (hr' : PySem.W.findIn X.K (.ref C) (dunderR op.info.2) = some rc) (hp : rc = none ∨ ∃ g : Addr, rc = some (.ref g))
    (h1 : PySem.W.findIn X.K (.type "int") (PySem.dunder op.info.2) = some fo) (h2 : PySem.W.findIn X.K (.type "int") (dunderR op.info.2) = some ro) (hsub : PySem.W.subIn X.K (.type "int") (.ref C) = some false) (ha : PE X a ta) (hb' : PE X b tb) :
    PE X (.BinOp a op b pos) (fun σ H Q => tOp (rBinI C sp (E σ)) ta tb σ H Q) := by
  refine ⟨fun pins s σ H Q I h => ?_⟩
  refine wpAny_BinOp (binT ha hb' I h fun v u s2 x y H2 I2 rx ry h => ?_)
  obtain ⟨a, i, dx, fs, rfl, rfl, ha, h⟩ := h
  cases (show v = Value.ref a from rx)
  obtain ⟨t, rfl⟩ := (show ∃ t, u = Value.int i t from ry)
  obtain ⟨mA, J, _⟩ := ins_get I2.hok ha
  obtain ⟨od, J, _⟩ := J.look
  obtain ⟨m, hF⟩ := I2.fr
  refine PySem.W.ksp_binT (T := "int") hF I2.ok.mod.kin J rfl hc hs hf hr' hp h1 h2 hsub (wpAny_mono (dun_callS F rfl hr hb (hx σ) I2 (.cons (show RelV (.ref a) (.ref a) from rfl) (.cons ry .nil)) h) (fun r s' z => ?_) fun _ _ e => e)
  obtain ⟨z, H', I', rz, c, ez, q⟩ := z
  subst ez
  cases (show r = Value.ref c from rz)
  exact ⟨.ref c, H', I', rfl, q⟩
/-- k * o -/
def rBinR (C : Addr) (sp : Sp) (E : XK) : R2 := fun x y H Q => ∃ a i dx fs, x = .int i ∧ y = .ref a ∧ H a = some (.ins C dx fs) ∧ sp [.ref a, .int i] H (fun v H' => ∃ c, v = .ref c ∧ Q (.ref c) H') E
theorem pe_binR {g : Addr} {a b : Expr} {ta tb : TE} {pos : Pos} (F : FnOk X.prog X.w X.K X.mg X.base CX k f fd ps sp) (hr : Room k X.A) (hb : Binds X.K fd ps []) (hx : ∀ σ, PassesAt CX X σ (E σ)) (hc : PySem.W.selfFirst X.K C = true)
    (hm : PySem.W.findIn X.K (.ref C) "__mul__" = some (some (.ref g))) (hs : PySem.W.findIn X.K (.ref C) "__rmul__" = some (some (.ref f))) (hf : PySem.W.isFn X.K (.ref f) = true) (hsub : PySem.W.subIn X.K (.ref C) (.type "int") = some false)
    (ha : PE X a ta) (hb' : PE X b tb) : PE X (.BinOp a .Mult b pos) (fun σ H Q => tOp (rBinR C sp (E σ)) ta tb σ H Q) := by
  refine ⟨fun pins s σ H Q I h => ?_⟩
  refine wpAny_BinOp (binT ha hb' I h fun v u s2 x y H2 I2 rx ry h => ?_)
  obtain ⟨a, i, dx, fs, rfl, rfl, ha, h⟩ := h
  cases (show u = Value.ref a from ry)
  obtain ⟨t, rfl⟩ := (show ∃ t, v = Value.int i t from rx)
  obtain ⟨mA, J, _⟩ := ins_get I2.hok ha
  obtain ⟨od, J, _⟩ := J.look
  refine rmul_own I2.kIn J hc hm hs hf hsub (wpAny_mono (dun_callS F rfl hr hb (hx σ) I2 (.cons (show RelV (.ref a) (.ref a) from rfl) (.cons rx .nil)) h) (fun r s' z => ?_) fun _ _ e => e)
  obtain ⟨z, H', I', rz, c, ez, q⟩ := z
  subst ez
  cases (show r = Value.ref c from rz)
  exact ⟨.ref c, H', I', rfl, q⟩
end
end Wk
/-! An own class made within a try-suite: what its maker lets out is caught there. -/
namespace Wk
open PySem PySem.Spec PyProof.Rows L2
section
variable {X : Cx} {CX : CXT} {k : Nat} {f C : Addr} {fd : FuncData} {ps : List Str} {sp : Sp} {E : L2.St → XK} {x : Str} {p pos : Pos} {e : Expr} {es : List Expr} {t : TA}
/-- C(e, ..), at the slots σ -/
def tMakeS (C : Addr) (sp : Sp) (E : L2.St → XK) (t : TA) : TE := fun σ H Q => t σ H fun vs H1 => ∀ x dx, H1 x = none → H1 dx = none → dx ≠ x →
  sp (.ref x :: vs) (upd (upd H1 dx (.own x)) x (.ins C dx [])) (fun v H2 => v = .non ∧ Q (.ref x) H2) (E σ)
theorem makeS_run {pins : List (Addr × Obj)} {σ : L2.St} {H : Hp} {s : Shared} {Q : VK} {us : List Value} {vs : List V} {Y : XK} (M : Mk X.K C f) (F : FnOk X.prog X.w X.K X.mg X.base CX k f fd ps sp) (hr : Room (k + 1) X.A) (hb : Binds X.K fd ps []) (hx : PassesAt CX X σ Y)
    (I : Inv X pins σ H s) (r : Vals vs us) (h : ∀ x dx, H x = none → H dx = none → dx ≠ x → sp (.ref x :: vs) (upd (upd H dx (.own x)) x (.ins C dx [])) (fun v H2 => v = .non ∧ Q (.ref x) H2) Y) :
    wpAny (model X.prog X.w) X.A (call (.ref C) us) (EP X pins σ Q) X.xe s := by
  have q0 := h _ _ (I.hok.fresh (Nat.le_succ s.heap.objs.size)) (I.hok.fresh (Nat.le_refl s.heap.objs.size)) (Nat.ne_of_lt (Nat.lt_succ_self _))
  have J := Inv.made (C := C) I
  have rv : Vals (V.ref (s.heap.objs.size + 1) :: vs) (Value.ref (s.heap.objs.size + 1) :: us) := .cons rfl r
  have b := hb _ (Value.ref (s.heap.objs.size + 1) :: us) J.kIn (by rw [List.append_nil, ← rv.length]; exact F.len _ _ _ _ q0)
  rw [List.append_nil] at b
  refine wpAny_call (make_map (f := f) I.kIn M.makes M.init (beq_iff_eq.mp M.fn) (codeAny_mono (F.run _ X.stack _ _ _ _ _ _ Y (hr.make C us []) (J.env0.make C us []) b rv q0) ?_))
  rintro (e | fl) s' hq
  · exact hx pins _ _ e s' J hq
  · cases fl with
    | ret u =>
      obtain ⟨v, H', J', rv', ev, q⟩ := J.after hq
      subst ev
      exact ⟨rv', V.ref (s.heap.objs.size + 1), H', J', rfl, q⟩
    | next => exact False.elim hq
    | brk => exact False.elim hq
    | cont => exact False.elim hq
theorem pe_makeS (M : Mk X.K C f) (F : FnOk X.prog X.w X.K X.mg X.base CX k f fd ps sp) (hr : Room (k + 1) X.A) (hg : Gl X x) (hm : X.mg x = some (.ref C)) (hb : Binds X.K fd ps []) (hx : ∀ σ, PassesAt CX X σ (E σ))
    (ha : PA X (e :: es) t) (hdb : (x == ("__debug__" : Str)) = false := by decide) (he : starEach (e :: es) X.env = (false, eval e X.env) :: starEach es X.env := by rfl) (hpl : (backTo pos (starEach es X.env)).any (·.1) = false := by rfl) :
    PE X (.Call (.Name x p) (e :: es) [] pos) (tMakeS C sp E t) :=
  ⟨fun pins s σ H Q I h => wpAny_Call_Name_kw (ld_glob I hg hm (PySem.W.callWith_K (h₀ := X.base) I.ok.mod.kin M.kp (thn (ha.run pos pins s σ H _ I h) fun us s1 ⟨vs, H1, I1, r, q⟩ => ⟨I1.kIn, makeS_run M F hr hb (hx σ) I1 r q⟩) he hpl) hdb)⟩
end
end Wk
/-! bs.count(True) of a list of bools. -/
namespace Wk
open PySem PySem.Spec PyProof.Rows L2
def eqB (k : Bool) : Value → Bool
  | .bool c => c == k
  | _ => false
theorem bools_vals : ∀ {bs : List Bool} {us : List Value}, Vals (bs.map V.bl) us → us = bs.map Value.bool
  | [], _, h => by cases h; rfl
  | b :: bs, _, h => by
    cases h with
    | cons r t =>
      cases (show _ = Value.bool b from r)
      rw [bools_vals t]
      rfl
theorem bools_count (k : Bool) : ∀ bs : List Bool, (bs.map Value.bool).countP (eqB k) = bs.count k
  | [] => rfl
  | b :: bs => by
    rw [List.map_cons, List.countP_cons, List.count_cons, bools_count k bs]
    rfl
def rCntB (K : PySem.W.Frag) : V → List V → Hp → VK → Prop := fun x xs H Q => ∃ (p : Addr) (bs : List Bool) (k : Bool), x = .ref p ∧ xs = [.bl k] ∧ SqL K H p (bs.map V.bl) ∧ Q (.int (bs.count k : Nat)) H
section
variable {X : Cx}
theorem mt_lcountB : MtR X "list.count" (rCntB X.K) := by
  intro pins s σ H x xs v us Q I rx rxs h
  obtain ⟨p, bs, k, rfl, rfl, hs, q⟩ := h
  cases rx
  obtain ⟨u, rfl, ru⟩ := rxs.one
  cases (show u = Value.bool k from ru)
  obtain ⟨its, rv, ⟨⟨cls, dd, data, sl⟩, n, ho, hc, hdn, hd⟩, hlen⟩ := I.list hs
  simp only at hc hd
  subst hc hd
  have hi := bools_vals rv
  subst hi
  refine call_meets PySem.F.slot_list_count ⟨_, ho, rfl⟩ PySem.F.entry_list_count (PySem.F.args_list_count_2 _ _)
    (SeqAt.list_countAt p (bs.map Value.bool).toArray n dd sl (.bool k) (eqB k)) ⟨ho, fun y hy => ?_, ?_⟩
  · have hy : y ∈ bs.map Value.bool := by simpa using hy
    obtain ⟨c, _, rfl⟩ := List.mem_map.mp hy
    exact SeqAt.EqAt.bool_bool c k
  · refine ⟨.int (bs.count k : Nat), H, I.tok _, ⟨s.toks, ?_⟩, q⟩
    show Value.int (((bs.map Value.bool).toArray.toList.countP (eqB k) : Nat) : Int) s.toks = Value.int ((bs.count k : Nat) : Int) s.toks
    rw [show (bs.map Value.bool).toArray.toList = bs.map Value.bool from rfl, bools_count]
end
end Wk
/-! The law's try: what the constructor tells or raises. -/
namespace T22
open PySem PySem.Spec PyProof.Rows L2 Wk
abbrev sHeard : Stmt := top 30
/-- what is seen of an error's class where it is caught -/
structure ErrX (K : PySem.W.Frag) (c cB : Addr) : Prop where
  xf : XfC K c
  xc : ExcC K c
  exm : PySem.W.exmOne K (.ref c) (.ref cB) = some true
/-- the names that the law's try reads, and the three classes told apart -/
structure HeW (K : PySem.W.Frag) (mg : Str → Option Value) (cW cI cT cB : Addr) : Prop where
  gW : mg "Wrong" = some (.ref cW)
  gI : mg "BadTie" = some (.ref cI)
  gT : mg "TooMany" = some (.ref cT)
  gB : mg "ContentError" = some (.ref cB)
  xW : ErrX K cW cB
  xI : ErrX K cI cB
  xT : ErrX K cT cB
  ww : PySem.W.kitOne K (.ref cW) (.ref cW) = some true
  wi : PySem.W.kitOne K (.ref cW) (.ref cI) = some false
  wt : PySem.W.kitOne K (.ref cW) (.ref cT) = some false
  iw : PySem.W.kitOne K (.ref cI) (.ref cW) = some false
  ii : PySem.W.kitOne K (.ref cI) (.ref cI) = some true
  it : PySem.W.kitOne K (.ref cI) (.ref cT) = some false
  tw : PySem.W.kitOne K (.ref cT) (.ref cW) = some false
  ti : PySem.W.kitOne K (.ref cT) (.ref cI) = some false
  tt : PySem.W.kitOne K (.ref cT) (.ref cT) = some true
  nW : PySem.W.findIn K (.ref cW) "place" = some none
  nI : PySem.W.findIn K (.ref cI) "at" = some none
  nT : PySem.W.findIn K (.ref cT) "limit" = some none
  misi : mg "isinstance" = none
theorem call_isPK {X : Cx} {K : PySem.W.Frag} {a : Addr} {oe : Obj} {cls : Value} {d : Option Addr} (hK : X.K = K) (hp : (a, oe) ∈ X.pn) (hz : Zc cls d oe) (hf : ∃ ws, oe.data = .fields ws) : CallR X (.builtin "isinstance") (rIsP K a cls d) := by
  subst hK
  exact call_isP hp hz hf
theorem mt_lcountBK {X : Cx} {K : PySem.W.Frag} (hK : X.K = K) : MtR X "list.count" (rCntB K) := by
  subst hK
  exact mt_lcountB
theorem pe_cnt {X : Cx} {K : PySem.W.Frag} {o : Expr} {to : TE} {apos cpos p : Pos} {j} (hK : X.K = K) (ho : PE X o to) (hbase : attributeBase o "count" X.env (eval o X.env) = eval o X.env := by rfl)
    (hline : (apos.endLine == cpos.line) = true := by rfl) : PE X (.Call (.Attribute o "count" apos) [.Constant (.bool true) j p] [] cpos) (tBM K "list" (rCntB K) to (tCons (tC (.bl true)) tNil)) := by
  subst hK
  exact pe_bm PySem.F.plainAttrs_list PySem.F.slot_list_count PySem.F.type_list_count mt_lcountB ho (pa_cons pe_bl pa_nil) hbase (by rfl) hline
theorem pe_xfPK {X : Cx} {K : PySem.W.Frag} {a : Addr} {oe : Obj} {cls : Value} {d : Option Addr} {e : Expr} {te : TE} {pos : Pos} {n : Str} (hK : X.K = K) (hp : (a, oe) ∈ X.pn) (hz : Zc cls d oe) (hf : ∃ ws, oe.data = .fields ws) (he : PE X e te)
    (hb : attributeBase e n X.env (eval e X.env) = eval e X.env := by rfl) : PE X (.Attribute e n pos) (tXfP K a cls d n te) := by
  subst hK
  exact pe_xfP hp hz hf he hb
/-- the class, as it is made of anything -/
structure MakA (P : Program) (w : World) (K : PySem.W.Frag) (mg : Str → Option Value) (base : Heap) (C cW cI cT : Addr) (k : Nat) (fi : Addr) (di : FuncData) : Prop where
  M : Mk K C fi
  F : FnOk P w K mg base (L2N.CX P w) k fi di ["self", "size", "ties"] (spInitA K C cW cI cT)
  b0 : Binds K di ["self", "size", "ties"] []
  g : mg "Web" = some (.ref C)
def tells (x : Str) (i : Int) (Q : VK) (H : Hp) : Prop := ∀ H' R, Same H H' → H' R = some (.tup [.str x, .int i]) → Q (.ref R) H'
def spHeard (K : PySem.W.Frag) : Sp := fun vs H Q _ => ∃ y ty z, vs = [y, z] ∧ AnyV K H y ty ∧
  ((fromToB y 0 60 = false ∧ tells "wrong" 0 Q H) ∨ ∃ n : Nat, y = .int (n : Int) ∧ n ≤ 60 ∧
    ((∃ tz, TyX K H z tz ∧ PySem.W.kitAny K tz [.type "list", .type "tuple"] = some false ∧ tells "wrong" 1 Q H) ∨ ∃ a xs, z = .ref a ∧ SqS K H a xs ∧
      ((∃ (bs : List Bool) (i : Nat), TieAll K H (n : Int) xs bs ∧ bs[i]? = some false ∧ (∀ j, j < i → bs[j]? = some true) ∧ tells "tie" i Q H) ∨ ∃ ps, Trs K H xs ps ∧ ps.length < 64 ∧ (∀ p ∈ ps, tieB p.1 p.2.1 p.2.2 (n : Int) = true) ∧
        (((∀ u v, amt (ps.map norm) u v ≤ 1000000000) ∧ tells "made" n Q H) ∨ ((∃ u v, 1000000000 < amt (ps.map norm) u v) ∧ tells "many" 1000000000 Q H)))))
theorem scHe : FnScope ["_law_size", "_law_ties", "_law_web", "e", "_law_flags"] ["_law_size", "_law_ties"] (defScope sHeard) := ⟨rfl, rfl, rfl, by decide +kernel, rfl, by decide +kernel, by decide +kernel⟩
section
variable {P : Program} {w : World} {K : PySem.W.Frag} {mg : Str → Option Value} {base : Heap}
theorem ok_heard {C cW cI cT cB fi f : Addr} {fd di : FuncData} {k : Nat} (F : Fun K "_law_heard" "_law_heard" sHeard f fd) (T : TxtW K mg C) (Hv : HeW K mg cW cI cT cB) (MA : MakA P w K mg base C cW cI cT k fi di) :
    FnOk P w K mg base CX0 (k + 2) f fd ["_law_size", "_law_ties"] (spHeard K) := by
  refine F.ok scHe (fun vs H Q E h => ?_) (fun cdv A outer s H vs Q E hr h => ?_)
  · obtain ⟨y, ty, z, rfl, _⟩ := h
    rfl
  · obtain ⟨y, ty, z, rfl, ay, q⟩ := h
    refine ⟨_, pss_cons (L2N.ps_try_as (i := 3) (Wout := fun _ _ _ _ => False) rfl rfl scHe.nd rfl rfl ⟨rfl, by decide, Or.inl Hv.gB⟩ takes0N
      (fun WW pn xe tk _ => pss_one (ps_set (i := 2) scHe.nd rfl (Or.inl rfl) (by exact (pe_makeS MA.M MA.F hr rfl MA.g MA.b0 (fun σ => L2N.passAt tk σ) (pa_cons (pv 0) (pa_cons (pv 1) pa_nil))))))
      (fun a oe cls d pn hz hf => pss_cons (ps_set (i := 4) scHe.nd rfl (Or.inl rfl) (by exact (pe_lst
          (pa_cons (pe_callB (call_isPK (K := K) rfl List.mem_cons_self (L2N.Zn.zc hz) hf) (by rfl) Hv.misi (by decide +kernel) (pa_cons (pv 3) (pa_cons (pe_glob (v := .ref cW) rfl Hv.gW rfl) pa_nil)))
          (pa_cons (pe_callB (call_isPK (K := K) rfl List.mem_cons_self (L2N.Zn.zc hz) hf) (by rfl) Hv.misi (by decide +kernel) (pa_cons (pv 3) (pa_cons (pe_glob (v := .ref cI) rfl Hv.gI rfl) pa_nil)))
          (pa_cons (pe_callB (call_isPK (K := K) rfl List.mem_cons_self (L2N.Zn.zc hz) hf) (by rfl) Hv.misi (by decide +kernel) (pa_cons (pv 3) (pa_cons (pe_glob (v := .ref cT) rfl Hv.gT rfl) pa_nil))) pa_nil))))))
        (pss_cons (ps_if (by exact (pt_cmpR op_ne (pe_cnt (K := K) rfl (pv 4)) pe_int (nomark _))) (pss_one ps_never) pss_nil)
        (pss_cons (ps_if (by exact (pt_val (pe_ix (r := rIxL K) ix_list (pv 4) pe_int (fun _ _ => rfl)))) (pss_one (ps_ret (by exact (pe_tup (pa_cons pe_str (pa_cons (pe_xfPK (K := K) rfl List.mem_cons_self (L2N.Zn.zc hz) hf (pv 3)) pa_nil)))))) pss_nil)
        (pss_one (ps_ret (by exact (pe_ifExp (pt_val (pe_ix (r := rIxL K) ix_list (pv 4) pe_int (fun _ _ => rfl))) (pe_tup (pa_cons pe_str (pa_cons (pe_xfPK (K := K) rfl List.mem_cons_self (L2N.Zn.zc hz) hf (pv 3)) pa_nil)))
          (pe_tup (pa_cons pe_str (pa_cons (pe_xfPK (K := K) rfl List.mem_cons_self (L2N.Zn.zc hz) hf (pv 3)) pa_nil)))))))))))
      (pss_one (ps_ret (pe_tup (pa_cons pe_str (pa_cons (pe_fld (pv 2) rfl) pa_nil))))), ?_⟩
    refine ⟨_, rfl, _, rfl, fun x dx hx hdx hne => ?_⟩
    have s0 : Same H (upd (upd H dx (.own x)) x (.ins C dx [])) := (same_upd hdx).trans (same_upd (by rw [upd_ne (Ne.symm hne)]; exact hx))
    refine ⟨x, dx, y, ty, z, rfl, upd_same, any_same ay s0, ?_⟩
    rcases q with ⟨hb, q⟩ | ⟨n, rfl, hn, q⟩
    · refine .inl ⟨hb, fun H' d s nd => ⟨true, Hv.xW.exm, fun _ a na => ?_, fun z => Bool.noConfusion z⟩⟩
      refine ⟨_, rfl, .ref cW, .ref cW, true, cW, rfl, .own cW, rfl, Hv.xW.xc, .inr ⟨d, _, rfl, upd_same⟩, Hv.ww, _, rfl, .ref cI, .ref cI, false, cW, rfl, .own cI, rfl, Hv.xW.xc, .inr ⟨d, _, rfl, upd_same⟩, Hv.wi, _, rfl, .ref cT, .ref cT, false, cW, rfl, .own cT, rfl, Hv.xW.xc, .inr ⟨d, _, rfl, upd_same⟩, Hv.wt, (by show 3 ≤ sizeLine; decide), fun L nL => ?_⟩
      have sL := same_upd (o := .lst [V.bl true, .bl false, .bl false]) nL
      refine ⟨_, rfl, .inl ⟨rfl, _, .inl (.inl upd_same)⟩, L, [true, false, false], true, rfl, rfl, .inl (.inl upd_same), rfl, _, rfl, ?_⟩
      rw [show ((List.count true [true, false, false] : Nat) : Int) = 1 from rfl, decide_eq_true rfl]
      refine ⟨_, rfl, L, _, 0, _, rfl, rfl, .inl (.inl upd_same), atI_nat (j := 0) rfl, true, rfl, ?_⟩
      refine ⟨_, rfl, rfl, cW, d, _, _, rfl, Hv.xW.xf, Hv.nW, rfl, sL _ _ upd_same, rfl, (by show 2 ≤ sizeLine; decide), fun R nR => ?_⟩
      exact q _ R (s0.trans (s.trans ((same_upd nd).trans (sL.trans (same_upd nR))))) upd_same
    refine .inr ⟨n, rfl, hn, ?_⟩
    rcases q with ⟨tz, tyz, hk, q⟩ | ⟨a, xs, rfl, hS, q⟩
    · refine .inl ⟨tz, ty_same tyz s0, hk, fun H' d s nd => ⟨true, Hv.xW.exm, fun _ a na => ?_, fun z => Bool.noConfusion z⟩⟩
      refine ⟨_, rfl, .ref cW, .ref cW, true, cW, rfl, .own cW, rfl, Hv.xW.xc, .inr ⟨d, _, rfl, upd_same⟩, Hv.ww, _, rfl, .ref cI, .ref cI, false, cW, rfl, .own cI, rfl, Hv.xW.xc, .inr ⟨d, _, rfl, upd_same⟩, Hv.wi, _, rfl, .ref cT, .ref cT, false, cW, rfl, .own cT, rfl, Hv.xW.xc, .inr ⟨d, _, rfl, upd_same⟩, Hv.wt, (by show 3 ≤ sizeLine; decide), fun L nL => ?_⟩
      have sL := same_upd (o := .lst [V.bl true, .bl false, .bl false]) nL
      refine ⟨_, rfl, .inl ⟨rfl, _, .inl (.inl upd_same)⟩, L, [true, false, false], true, rfl, rfl, .inl (.inl upd_same), rfl, _, rfl, ?_⟩
      rw [show ((List.count true [true, false, false] : Nat) : Int) = 1 from rfl, decide_eq_true rfl]
      refine ⟨_, rfl, L, _, 0, _, rfl, rfl, .inl (.inl upd_same), atI_nat (j := 0) rfl, true, rfl, ?_⟩
      refine ⟨_, rfl, rfl, cW, d, _, _, rfl, Hv.xW.xf, Hv.nW, rfl, sL _ _ upd_same, rfl, (by show 2 ≤ sizeLine; decide), fun R nR => ?_⟩
      exact q _ R (s0.trans (s.trans ((same_upd nd).trans (sL.trans (same_upd nR))))) upd_same
    refine .inr ⟨a, xs, rfl, hS.ext s0, ?_⟩
    rcases q with ⟨bs, i, hA, hi1, hi2, q⟩ | ⟨ps, hT, h64, hv, q⟩
    · refine .inl ⟨bs, i, hA.same s0, hi1, hi2, fun H' d s nd => ⟨true, Hv.xI.exm, fun _ a na => ?_, fun z => Bool.noConfusion z⟩⟩
      refine ⟨_, rfl, .ref cW, .ref cW, false, cI, rfl, .own cW, rfl, Hv.xI.xc, .inr ⟨d, _, rfl, upd_same⟩, Hv.iw, _, rfl, .ref cI, .ref cI, true, cI, rfl, .own cI, rfl, Hv.xI.xc, .inr ⟨d, _, rfl, upd_same⟩, Hv.ii, _, rfl, .ref cT, .ref cT, false, cI, rfl, .own cT, rfl, Hv.xI.xc, .inr ⟨d, _, rfl, upd_same⟩, Hv.it, (by show 3 ≤ sizeLine; decide), fun L nL => ?_⟩
      have sL := same_upd (o := .lst [V.bl false, .bl true, .bl false]) nL
      refine ⟨_, rfl, .inl ⟨rfl, _, .inl (.inl upd_same)⟩, L, [false, true, false], true, rfl, rfl, .inl (.inl upd_same), rfl, _, rfl, ?_⟩
      rw [show ((List.count true [false, true, false] : Nat) : Int) = 1 from rfl, decide_eq_true rfl]
      refine ⟨_, rfl, L, _, 0, _, rfl, rfl, .inl (.inl upd_same), atI_nat (j := 0) rfl, false, rfl, ?_⟩
      refine ⟨_, rfl, L, _, 1, _, rfl, rfl, .inl (.inl upd_same), atI_nat (j := 1) rfl, true, rfl, _, rfl, rfl, cI, d, _, _, rfl, Hv.xI.xf, Hv.nI, rfl, sL _ _ upd_same, rfl, (by show 2 ≤ sizeLine; decide), fun R nR => ?_⟩
      exact q _ R (s0.trans (s.trans ((same_upd nd).trans (sL.trans (same_upd nR))))) upd_same
    refine .inr ⟨ps, hT.same s0, h64, hv, ?_⟩
    have toS : ∀ {H' : Hp}, But x (upd (upd H dx (.own x)) x (.ins C dx [])) H' → Same H H' := fun b c o h => b c o (ne_of_none h hx) (s0 _ _ h)
    rcases q with ⟨ham, q⟩ | ⟨hb, q⟩
    · refine .inl ⟨ham, fun H' T' b t w => ⟨rfl, ?_⟩⟩
      obtain ⟨dx', t', ys, d', g, h1, _⟩ := w.ex
      refine ⟨_, rfl, x, C, dx', _, _, rfl, h1, T.cl, T.n1, lk5s _ _ _ _ _, (by show 2 ≤ sizeLine; decide), fun R nR => ?_⟩
      exact q _ R ((toS b).trans (same_upd nR)) upd_same
    · refine .inr ⟨hb, fun H' d b nd => ⟨true, Hv.xT.exm, fun _ a na => ?_, fun z => Bool.noConfusion z⟩⟩
      refine ⟨_, rfl, .ref cW, .ref cW, false, cT, rfl, .own cW, rfl, Hv.xT.xc, .inr ⟨d, _, rfl, upd_same⟩, Hv.tw, _, rfl, .ref cI, .ref cI, false, cT, rfl, .own cI, rfl, Hv.xT.xc, .inr ⟨d, _, rfl, upd_same⟩, Hv.ti, _, rfl, .ref cT, .ref cT, true, cT, rfl, .own cT, rfl, Hv.xT.xc, .inr ⟨d, _, rfl, upd_same⟩, Hv.tt, (by show 3 ≤ sizeLine; decide), fun L nL => ?_⟩
      have sL := same_upd (o := .lst [V.bl false, .bl false, .bl true]) nL
      refine ⟨_, rfl, .inl ⟨rfl, _, .inl (.inl upd_same)⟩, L, [false, false, true], true, rfl, rfl, .inl (.inl upd_same), rfl, _, rfl, ?_⟩
      rw [show ((List.count true [false, false, true] : Nat) : Int) = 1 from rfl, decide_eq_true rfl]
      refine ⟨_, rfl, L, _, 0, _, rfl, rfl, .inl (.inl upd_same), atI_nat (j := 0) rfl, false, rfl, ?_⟩
      refine ⟨_, rfl, L, _, 1, _, rfl, rfl, .inl (.inl upd_same), atI_nat (j := 1) rfl, false, rfl, _, rfl, rfl, cT, d, _, _, rfl, Hv.xT.xf, Hv.nT, rfl, sL _ _ upd_same, rfl, (by show 2 ≤ sizeLine; decide), fun R nR => ?_⟩
      exact q _ R ((toS b).trans ((same_upd nd).trans (sL.trans (same_upd nR)))) upd_same
end
end T22
/-! repr of a list of data whose tuples may be tracked or written in the text; the length of a number's text. -/
namespace Wk
open PySem PySem.Spec PyProof.Rows L2
theorem len_of (x : String) : ((x : Str)).length = x.length := by
  show (Str.ofString x).length = _
  rw [Str.ofString_eq_toList]
  show ((x.toList.map Char.toNat).toArray).size = _
  rw [List.size_toArray, List.length_map, String.length_toList]
theorem int_len {i : Int} {k : Nat} (hk : 0 < k) (h : i.natAbs < 10 ^ k) : (PyData.int i).shown.length ≤ k + 1 := by
  simp only [PyData.shown]
  rw [len_of]
  cases i with
  | ofNat n =>
    have e := (Nat.length_repr_le_iff (n := n) hk).mpr h
    show (Nat.repr n).length ≤ _
    omega
  | negSucc n =>
    have e := (Nat.length_repr_le_iff (n := n + 1) hk).mpr h
    show ("-" ++ Nat.repr (n + 1)).length ≤ _
    rw [String.length_append]
    have : ("-" : String).length = 1 := rfl
    omega
theorem int_show {i : Int} (h : i.natAbs < 10 ^ 15) : (PyData.int i).shown.length ≤ 16 ∧ (PyData.int i).showable = true := by
  refine ⟨int_len (by decide) h, ?_⟩
  simp only [PyData.showable]
  refine decide_eq_true ?_
  have : i.natAbs.log2 < 64 := by
    by_cases h0 : i.natAbs = 0
    · rw [h0]; decide
    · exact (Nat.log2_lt h0).mpr (Nat.lt_of_lt_of_le h (by decide))
  omega
mutual
/-- the value is such data, all its objects tracked -/
inductive Rq (K : PySem.W.Frag) (H : Hp) : V → PyData → Prop
  | non : Rq K H .non .none
  | bl (b : Bool) : Rq K H (.bl b) (.bool b)
  | int (i : Int) : Rq K H (.int i) (.int i)
  | str (x : Str) : Rq K H (.str x) (.str x)
  | lst {a : Addr} {vs : List V} {ds : List PyData} : H a = some (.lst vs) → RqAll K H vs ds → Rq K H (.ref a) (.list ds)
  | tup {a : Addr} {vs : List V} {ds : List PyData} : SqT K H a vs → RqAll K H vs ds → Rq K H (.ref a) (.tuple ds)
  | emp {a : Addr} : H a = some (.dT []) → Rq K H (.ref a) (.dict [])
inductive RqAll (K : PySem.W.Frag) (H : Hp) : List V → List PyData → Prop
  | nil : RqAll K H [] []
  | cons {v : V} {vs : List V} {d : PyData} {ds : List PyData} : Rq K H v d → RqAll K H vs ds → RqAll K H (v :: vs) (d :: ds)
end
section
variable {X : Cx} {pins : List (Addr × Obj)} {σ : L2.St} {H : Hp} {s : Shared}
mutual
theorem Rq.k (I : Inv X pins σ H s) : ∀ (d : PyData) (v : V) (u : Value), Rq X.K H v d → RelV v u → d.showable = true → d.shown.length ≤ sizeLine →
    (∃ as, Reads s.heap u d as) ∧ ∃ bs, ReadAtMost s.heap d.depth bs ∧ ReprK X.prog X.w bs s.heap d.depth u d.shown
  | .none, v, u, h, r, _, _ => by
    cases h; cases r
    refine ⟨⟨_, Reads.none⟩, [], (fun _ z => nomatch z), ?_⟩
    simp only [PyData.shown]; exact ReprK.of_is ReprIs.none _ _ _
  | .bool b, v, u, h, r, _, _ => by
    cases h; cases r
    refine ⟨⟨_, Reads.bool b⟩, [], (fun _ z => nomatch z), ?_⟩
    simp only [PyData.shown]; exact ReprK.of_is (ReprIs.bool b) _ _ _
  | .int i, v, u, h, r, hs, _ => by
    cases h
    obtain ⟨t, rfl⟩ := r
    refine ⟨⟨_, Reads.int i t⟩, [], (fun _ z => nomatch z), ?_⟩
    simp only [PyData.shown]; exact ReprK.of_is (ReprIs.int t (by simpa [PyData.showable] using hs)) _ _ _
  | .str x, v, u, h, r, _, hz => by
    cases h
    obtain ⟨t, rfl⟩ := r
    refine ⟨⟨_, Reads.str x t⟩, [], (fun _ z => nomatch z), ?_⟩
    simp only [PyData.shown] at hz ⊢; exact ReprK.of_is (ReprIs.str x t hz) _ _ _
  | .list ds, v, u, h, r, hs, hz => by
    cases h with
    | @lst a vs _ ha hall =>
      cases (show u = Value.ref a from r)
      obtain ⟨_, its, n, rv, e⟩ := (show ObjOk X.prog X.w H s.heap a (.lst vs) from I.hok a _ ha)
      simp only [PyData.shown] at hz
      simp only [PyData.showable] at hs
      obtain ⟨⟨as, ra⟩, bs, hb, hk⟩ := RqAll.k I ds vs its hall rv hs (fun t ht => Nat.le_trans (listText_mem_le ht) hz)
      have hr : Reads s.heap (.ref a) (.list ds) (a :: as) := Reads.list (vs := its.toArray) e rfl rfl (by simpa using ra)
      have hna : a ∉ bs := not_mem_of_deeper hr (by simp only [PyData.depth]; omega) hb
      refine ⟨⟨_, hr⟩, a :: bs, ReadAtMost.cons hr (by simp only [PyData.depth]; omega) hb, ?_⟩
      simp only [PyData.depth, PyData.shown]
      cases its with
      | nil =>
        cases ra
        simp only [PyData.shownAll, listText_nil]
        exact ReprK.listEmpty e rfl rfl
      | cons y l => exact ReprK.list e rfl rfl hna (by simpa using hk.length_eq) (fun i z q => hk.item i z (by simpa using q))
  | .tuple ds, v, u, h, r, hs, hz => by
    cases h with
    | @tup a vs _ ha hall =>
      cases (show u = Value.ref a from r)
      obtain ⟨its, rv, ⟨o, e1, e2, n, e3⟩, _⟩ := I.tuple ha
      simp only [PyData.shown] at hz
      simp only [PyData.showable] at hs
      obtain ⟨⟨as, ra⟩, bs, hb, hk⟩ := RqAll.k I ds vs its hall rv hs (fun t ht => Nat.le_trans (tupleText_mem_le ht) hz)
      have hr : Reads s.heap (.ref a) (.tuple ds) as := Reads.tuple (vs := its.toArray) e1 e2 e3 (by simpa using ra)
      have hna : a ∉ bs := not_mem_of_deeper hr (by simp only [PyData.depth]; omega) hb
      refine ⟨⟨_, hr⟩, a :: bs, ReadAtMost.cons hr (by simp only [PyData.depth]; omega) hb, ?_⟩
      simp only [PyData.depth, PyData.shown]
      exact ReprK.tuple e1 e2 e3 hna (by simpa using hk)
  | .dict ps, v, u, h, r, _, _ => by
    cases h with
    | @emp a ha =>
      cases (show u = Value.ref a from r)
      obtain ⟨_, hsys, xs, hp, o, es, ep, e, ed, od, hes, _⟩ := (show ObjOk X.prog X.w H s.heap a (.dT []) from I.hok a _ ha)
      cases hp
      have hes : es.toList = [] := hes
      have hr : Reads s.heap (.ref a) (.dict []) ([a] ++ []) := Reads.dict e ed.1 od (by rw [hes]; exact ReadsAll.nil) (by rw [hes]; exact ReadsAll.nil)
      refine ⟨⟨_, hr⟩, [a], ReadAtMost.cons hr (Nat.le_refl _) (fun _ z => nomatch z), ?_⟩
      have hk := ReprK.dict (prog := X.prog) (w := X.w) (as := []) (d := 0) (ps := []) e ed.1 od hsys (fun z => nomatch z) (by rw [hes]; exact .nil)
      have e1 : (PyData.dict []).shown = dictText [] := by simp only [PyData.shown, PyData.shownKv]
      rw [e1]
      exact hk.level_le (by simp only [PyData.depth]; omega)
theorem RqAll.k (I : Inv X pins σ H s) : ∀ (ds : List PyData) (vs : List V) (us : List Value), RqAll X.K H vs ds → Vals vs us → PyData.showableAll ds = true → (∀ t ∈ PyData.shownAll ds, t.length ≤ sizeLine) →
    (∃ as, ReadsAll s.heap us ds as) ∧ ∃ bs, ReadAtMost s.heap (PyData.depthAll ds) bs ∧ ReprAllK X.prog X.w bs s.heap (PyData.depthAll ds) us (PyData.shownAll ds)
  | [], vs, us, h, r, _, _ => by
    cases h; cases r
    refine ⟨⟨_, ReadsAll.nil⟩, [], (fun _ z => nomatch z), ?_⟩
    simp only [PyData.shownAll]; exact ReprAllK.nil
  | d :: ds, vs, us, h, r, hs, hz => by
    cases h with
    | cons h1 h2 =>
      cases r with
      | cons r1 r2 =>
        simp only [PyData.showableAll, Bool.and_eq_true] at hs
        obtain ⟨⟨a1, q1⟩, b1, p1, k1⟩ := Rq.k I d _ _ h1 r1 hs.1 (hz _ (by simp only [PyData.shownAll]; exact List.mem_cons_self))
        obtain ⟨⟨a2, q2⟩, b2, p2, k2⟩ := RqAll.k I ds _ _ h2 r2 hs.2 (fun t ht => hz t (by simp only [PyData.shownAll]; exact List.mem_cons_of_mem _ ht))
        refine ⟨⟨_, ReadsAll.cons q1 q2⟩, b1 ++ b2, (p1.mono (by simp only [PyData.depthAll]; omega)).append (p2.mono (by simp only [PyData.depthAll]; omega)), ?_⟩
        simp only [PyData.depthAll, PyData.shownAll]
        exact ReprAllK.cons ((k1.more (fun b hm => List.mem_append_left _ hm)).level_le (Nat.le_max_left _ _)) (k2.more_le (fun b hm => List.mem_append_right _ hm) (Nat.le_max_right _ _))
end
end
end Wk
namespace Wk
open PySem PySem.Spec PyProof.Rows L2
/-- repr(xs), xs a list of such data -/
def rReprQ (K : PySem.W.Frag) : List V → Hp → VK → Prop := fun xs H Q => ∃ (a : Addr) (vs : List V) (ds : List PyData), xs = [.ref a] ∧ H a = some (.lst vs) ∧ RqAll K H vs ds ∧ PyData.showableAll ds = true ∧ PyData.depthAll ds ≤ 40 ∧
  (listText (PyData.shownAll ds)).length ≤ sizeLine ∧ Q (.str (listText (PyData.shownAll ds))) H
section
variable {X : Cx}
theorem call_reprQ {K : PySem.W.Frag} (hK : X.K = K) (hg : Gd X.A) (hu : X.A.units + 64 < cLine) : CallR X (.builtin "repr") (rReprQ K) := by
  subst hK
  intro pins s σ H xs us Q I r h
  obtain ⟨a, vs, ds, rfl, ha, hall, hs, hd, hz, q⟩ := h
  obtain ⟨u, rfl, e⟩ := vals1 r
  cases (show u = Value.ref a from e)
  obtain ⟨_, its, n, rv, e1⟩ := (show ObjOk X.prog X.w H s.heap a (.lst vs) from I.hok a _ ha)
  obtain ⟨⟨as, ra⟩, bs, hb, hk⟩ := RqAll.k I ds vs its hall rv hs (fun t ht => Nat.le_trans (listText_mem_le ht) hz)
  have hr : Reads s.heap (.ref a) (.list ds) (a :: as) := Reads.list (vs := its.toArray) e1 rfl rfl (by simpa using ra)
  have hna : a ∉ bs := not_mem_of_deeper hr (by simp only [PyData.depth]; omega) hb
  refine call_repr_slot (by omega) ⟨_, e1, rfl⟩ F.slot_list_repr.toG ?_
  cases its with
  | nil =>
    cases ra
    simp only [PyData.shownAll, listText_nil] at q
    exact call_list_repr_empty ⟨_, e1, rfl⟩ e1 rfl ⟨_, _, rfl, .str "[]", H, I.tok _, ⟨_, rfl⟩, q⟩
  | cons y l =>
    refine call_list_reprK e1 rfl rfl hna (by simpa using hk.length_eq) (fun i z w => hk.item i z (by simpa using w)) hg (fun b _ => Clear.nil b) (by show X.A.units + 1 + _ < _; omega) (fun _ _ z => z) (fun h' u tk kp => ?_) hz
    exact ⟨_, _, rfl, .str _, H, I.kept (t' := tk) kp, ⟨_, rfl⟩, q⟩
end
end Wk
/-! The texts of sizes, ties and degrees are short; what the law's data look like. -/
namespace T22
open PySem PySem.Spec PyProof.Rows L2 Wk
/-- the signs of a list of data -/
def cost : List PyData → Nat
  | [] => 0
  | d :: ds => d.shown.length + 2 + cost ds
theorem cost_sum : ∀ ds : List PyData, ((PyData.shownAll ds).map fun t => t.length + 2).sum = cost ds
  | [] => rfl
  | d :: ds => by
    show (((d.shown :: PyData.shownAll ds)).map fun t => t.length + 2).sum = d.shown.length + 2 + cost ds
    rw [List.map_cons, List.sum_cons, cost_sum ds]
theorem cost_append : ∀ ds es : List PyData, cost (ds ++ es) = cost ds + cost es
  | [], es => by show cost es = 0 + cost es; omega
  | d :: ds, es => by show d.shown.length + 2 + cost (ds ++ es) = _; rw [cost_append ds es]; show _ = d.shown.length + 2 + cost ds + cost es; omega
theorem textFrom_le : ∀ (ts : List Str) (k : Nat) (acc : Str), (textFrom k acc ts).length ≤ acc.length + (ts.map fun t => t.length + 2).sum
  | [], _, acc => by simp [textFrom]
  | t :: r, k, acc => by
    have ih := textFrom_le r (k + 1) (acc ++ (if k > 0 then ", " else "" : String) ++ t)
    have e : (((if k > 0 then ", " else "" : String) : Str)).length ≤ 2 := by split <;> decide +kernel
    rw [strLen_append, strLen_append] at ih
    rw [List.map_cons, List.sum_cons]
    refine Nat.le_trans (show (textFrom k acc (t :: r)).length ≤ _ from ih) ?_
    omega
theorem listText_le (ds : List PyData) : (listText (PyData.shownAll ds)).length ≤ 2 + cost ds := by
  have h := textFrom_le (PyData.shownAll ds) 0 "["
  rw [cost_sum] at h
  unfold listText
  rw [strLen_append]
  have e1 : ((("[" : String) : Str)).length = 1 := rfl
  have e2 : ((("]" : String) : Str)).length = 1 := rfl
  omega
theorem piled_eq : ∀ ts : List Str, piled ts = (ts.map fun t => t.length + 2).sum := fun ts => by
  induction ts with
  | nil => rfl
  | cons t ts ih => rw [List.map_cons, List.sum_cons, ← ih]; simp [piled]
theorem tupleText_le (ds : List PyData) : (tupleText (PyData.shownAll ds)).length ≤ 3 + cost ds := by
  unfold tupleText
  rw [strLen_append, strLen_append]
  have e1 : ((("(" : String) : Str)).length = 1 := rfl
  have e2 : (((if (PyData.shownAll ds).length == 1 then ",)" else ")" : String) : Str)).length ≤ 2 := by split <;> decide +kernel
  have e3 : (Str.join ", " (PyData.shownAll ds)).length ≤ cost ds := by
    cases ds with
    | nil => decide +kernel
    | cons d ds =>
      have h := join_length_add (PyData.shownAll (d :: ds)) (by simp [PyData.shownAll])
      rw [piled_eq, cost_sum] at h
      omega
  omega
/-- a number of moderate size -/
abbrev Small (i : Int) : Prop := i.natAbs < 10 ^ 15
theorem small_of {i : Int} (h0 : 0 ≤ i) (h : i ≤ 100000000000000) : Small i := by
  have : (10 : Nat) ^ 15 = 1000000000000000 := by decide
  show i.natAbs < _
  omega
theorem ints_ok : ∀ {l : List Int}, (∀ i ∈ l, Small i) → cost (l.map PyData.int) ≤ 18 * l.length ∧ PyData.showableAll (l.map PyData.int) = true ∧ PyData.depthAll (l.map PyData.int) = 0
  | [], _ => ⟨Nat.le_refl _, by simp [PyData.showableAll], by simp [PyData.depthAll]⟩
  | i :: l, h => by
    obtain ⟨a, b, c⟩ := ints_ok fun j hj => h j (List.mem_cons_of_mem _ hj)
    obtain ⟨d, e⟩ := int_show (h i List.mem_cons_self)
    refine ⟨?_, ?_, ?_⟩
    · show (PyData.int i).shown.length + 2 + cost (l.map PyData.int) ≤ 18 * (l.length + 1)
      omega
    · rw [List.map_cons, PyData.showableAll, e, b]; rfl
    · rw [List.map_cons, PyData.depthAll, c]; simp [PyData.depth]
theorem tup_len {ds : List PyData} : (PyData.tuple ds).shown.length ≤ 3 + cost ds := by
  have := tupleText_le ds
  simpa only [PyData.shown] using this
theorem d3_ok {p : T3} (h1 : Small p.1) (h2 : Small p.2.1) (h3 : Small p.2.2) : (d3 p).shown.length ≤ 57 ∧ (d3 p).showable = true ∧ (d3 p).depth = 1 := by
  have h := ints_ok (l := [p.1, p.2.1, p.2.2]) (by
    intro i hi
    simp only [List.mem_cons, List.not_mem_nil, or_false] at hi
    rcases hi with rfl | rfl | rfl <;> assumption)
  obtain ⟨a, b, c⟩ := h
  have e : d3 p = .tuple ([p.1, p.2.1, p.2.2].map PyData.int) := rfl
  rw [e]
  refine ⟨?_, ?_, ?_⟩
  · have := tup_len (ds := [p.1, p.2.1, p.2.2].map PyData.int)
    have e3 : [p.1, p.2.1, p.2.2].length = 3 := rfl
    omega
  · rw [PyData.showable]; exact b
  · rw [PyData.depth, c]
theorem d3s_ok : ∀ {T : List T3}, (∀ p ∈ T, Small p.1 ∧ Small p.2.1 ∧ Small p.2.2) → cost (T.map d3) ≤ 59 * T.length ∧ PyData.showableAll (T.map d3) = true ∧ PyData.depthAll (T.map d3) ≤ 1
  | [], _ => ⟨Nat.le_refl _, by simp [PyData.showableAll], by simp [PyData.depthAll]⟩
  | p :: T, h => by
    obtain ⟨a, b, c⟩ := d3s_ok fun j hj => h j (List.mem_cons_of_mem _ hj)
    obtain ⟨h1, h2, h3⟩ := h p List.mem_cons_self
    obtain ⟨d, e, f⟩ := d3_ok h1 h2 h3
    refine ⟨?_, ?_, ?_⟩
    · show (d3 p).shown.length + 2 + cost (T.map d3) ≤ 59 * (T.length + 1)
      omega
    · rw [List.map_cons, PyData.showableAll, e, b]; rfl
    · rw [List.map_cons, PyData.depthAll, f]; omega
/-- triples as data -/
theorem Trs.rq {K : PySem.W.Frag} {H : Hp} : ∀ {xs : List V} {ps : List T3}, Trs K H xs ps → RqAll K H xs (ps.map d3)
  | [], [], _ => .nil
  | _ :: _, _ :: _, h => by
    obtain ⟨⟨t, rfl, hS⟩, h2⟩ := h
    exact .cons (.tup hS (.cons (.int _) (.cons (.int _) (.cons (.int _) .nil)))) (Trs.rq h2)
  | [], _ :: _, h => h.elim
  | _ :: _, [], h => h.elim
theorem ints_rq {K : PySem.W.Frag} {H : Hp} : ∀ {l : List Int}, RqAll K H (l.map V.int) (l.map PyData.int)
  | [] => .nil
  | _ :: _ => .cons (.int _) ints_rq
/-- size, ties, total, degrees -/
def told (n : Nat) (T : List T3) (t : Int) (g : List Int) : List PyData := [.int (n : Int), .tuple (T.map d3), .int t, .tuple (g.map PyData.int)]
theorem told_ok {n : Nat} {T : List T3} {t : Int} {g : List Int} (hn : n ≤ 60) (hT : ∀ p ∈ T, Small p.1 ∧ Small p.2.1 ∧ Small p.2.2) (hl : T.length ≤ 100) (ht : Small t) (hg : ∀ i ∈ g, Small i) (hgl : g.length ≤ 100) :
    PyData.showableAll (told n T t g) = true ∧ PyData.depthAll (told n T t g) ≤ 40 ∧ (listText (PyData.shownAll (told n T t g))).length ≤ sizeLine := by
  obtain ⟨a1, a2⟩ := int_show (i := (n : Int)) (small_of (by omega) (by omega))
  obtain ⟨b1, b2⟩ := int_show ht
  obtain ⟨c1, c2, c3⟩ := d3s_ok hT
  obtain ⟨d1, d2, d3'⟩ := ints_ok hg
  refine ⟨?_, ?_, ?_⟩
  · unfold told
    rw [PyData.showableAll, PyData.showableAll, PyData.showableAll, PyData.showableAll, PyData.showableAll, a2, b2, PyData.showable, c2, PyData.showable, d2]
    rfl
  · unfold told
    rw [PyData.depthAll, PyData.depthAll, PyData.depthAll, PyData.depthAll, PyData.depthAll, PyData.depth, PyData.depth, PyData.depth, PyData.depth, d3']
    omega
  · refine Nat.le_trans (listText_le _) ?_
    unfold told
    show 2 + ((PyData.int (n : Int)).shown.length + 2 + ((PyData.tuple (T.map d3)).shown.length + 2 + ((PyData.int t).shown.length + 2 + ((PyData.tuple (g.map PyData.int)).shown.length + 2 + 0)))) ≤ sizeLine
    have e1 := tup_len (ds := T.map d3)
    have e2 := tup_len (ds := g.map PyData.int)
    rw [sizeLine_eq]
    omega
end T22
/-! One of a menu; items of ties that are none. -/
namespace T22
open PySem PySem.Spec PyProof.Rows L2 Wk
abbrev sOne : Stmt := top 27
abbrev sBadItem : Stmt := top 31
def spOne : Sp := fun vs H Q _ => ∃ (b l mn : Addr) (xs : List V) (n : Nat), vs = [.ref b, .ref mn] ∧ mn ≠ b ∧ H mn = some (.lst xs) ∧ xs ≠ [] ∧ xs.length ≤ 1000 ∧ BagAt H b l n ∧ n ≤ 1000000 ∧
  ∀ (v : V) (H' : Hp), v ∈ xs → BagAt H' b l (n + 1) → But b H H' → Q v H'
theorem scO : FnScope ["_law_bag_here", "_law_menu"] ["_law_bag_here", "_law_menu"] (defScope sOne) := ⟨rfl, rfl, rfl, by decide +kernel, rfl, by decide +kernel, by decide +kernel⟩
theorem scBI : FnScope ["_law_bag_here", "_law_size", "_law_far", "_law_menu"] ["_law_bag_here", "_law_size"] (defScope sBadItem) := ⟨rfl, rfl, rfl, by decide +kernel, rfl, by decide +kernel, by decide +kernel⟩
/-- no tie of n places, whatever becomes of the bag at b; its repr is known -/
structure Bad (K : PySem.W.Frag) (b : Addr) (H : Hp) (x : V) (n : Int) : Prop where
  ex : ∃ d, (∀ H', But b H H' → TieIs K H' x n false ∧ Rq K H' x d) ∧ d.showable = true ∧ d.depth ≤ 3 ∧ d.shown.length ≤ 400
theorem Bad.but {K : PySem.W.Frag} {b : Addr} {H H' : Hp} {x : V} {n : Int} (h : Bad K b H x n) (s : But b H H') : Bad K b H' x n := by
  obtain ⟨d, h1, h2⟩ := h.ex
  exact ⟨d, fun H2 t => h1 H2 (s.trans t), h2⟩
theorem bad_base {K : PySem.W.Frag} {b : Addr} {H : Hp} {x : V} {n : Int} {t : String} {d : PyData} (hk : PySem.W.kitOne K (.type t) (.type "tuple") = some false) (ty : ∀ H', But b H H' → TyX K H' x (.type t)) (hd : ∀ H', But b H H' → Rq K H' x d) (h : d.showable = true ∧ d.depth ≤ 3 ∧ d.shown.length ≤ 400) : Bad K b H x n :=
  ⟨d, fun H' s => ⟨⟨_, ty H' s, .inl ⟨hk, rfl⟩⟩, hd H' s⟩, h⟩
theorem bad_len {K : PySem.W.Frag} {b a : Addr} {H : Hp} {xs : List V} {ds : List PyData} {n : Int} (ha : H a = some (.tup xs)) (ne : a ≠ b) (hl : xs.length ≠ 3) (hd : ∀ H', But b H H' → RqAll K H' xs ds) (h : (PyData.tuple ds).showable = true ∧ (PyData.tuple ds).depth ≤ 3 ∧ (PyData.tuple ds).shown.length ≤ 400) : Bad K b H (.ref a) n :=
  ⟨.tuple ds, fun H' s => ⟨⟨_, Wk.SqT.tyX (.inl (.inl (s _ _ ne ha))), .inr ⟨kit_tup, a, xs, rfl, .inl (.inl (s _ _ ne ha)), .inl ⟨hl, rfl⟩⟩⟩, .tup (.inl (.inl (s _ _ ne ha))) (hd H' s)⟩, h⟩
theorem bad_tri {K : PySem.W.Frag} {b a : Addr} {H : Hp} {y z m : V} {ty tz tm : Value} {ds : List PyData} {n : Int} (ha : H a = some (.tup [y, z, m])) (ne : a ≠ b) (ay : ∀ H', But b H H' → AnyV K H' y ty) (az : ∀ H', But b H H' → AnyV K H' z tz) (am : ∀ H', But b H H' → AnyV K H' m tm)
    (hf : (pairB y z n && fromToB m 0 1000000000) = false) (hd : ∀ H', But b H H' → RqAll K H' [y, z, m] ds) (h : (PyData.tuple ds).showable = true ∧ (PyData.tuple ds).depth ≤ 3 ∧ (PyData.tuple ds).shown.length ≤ 400) : Bad K b H (.ref a) n :=
  ⟨.tuple ds, fun H' s => ⟨⟨_, Wk.SqT.tyX (.inl (.inl (s _ _ ne ha))), .inr ⟨kit_tup, a, _, rfl, .inl (.inl (s _ _ ne ha)), .inr ⟨y, z, m, ty, tz, tm, rfl, ay H' s, az H' s, am H' s, hf.symm⟩⟩⟩, .tup (.inl (.inl (s _ _ ne ha))) (hd H' s)⟩, h⟩
theorem far_ok {a b c : Int} (ha : a.natAbs < 10 ^ 31) (hb : b.natAbs < 10 ^ 31) (hc : c.natAbs < 10 ^ 31) : (PyData.tuple [.int a, .int b, .int c]).showable = true ∧ (PyData.tuple [.int a, .int b, .int c]).depth ≤ 3 ∧ (PyData.tuple [.int a, .int b, .int c]).shown.length ≤ 400 := by
  have sh : ∀ i : Int, i.natAbs < 10 ^ 31 → (PyData.int i).showable = true := fun i h => by
    simp only [PyData.showable]
    refine decide_eq_true ?_
    by_cases h0 : i.natAbs = 0
    · rw [h0]; decide
    · have : i.natAbs.log2 < 104 := (Nat.log2_lt h0).mpr (Nat.lt_of_lt_of_le h (by decide))
      omega
  refine ⟨by simp only [PyData.showable, PyData.showableAll]; exact (by rw [show decide (a.natAbs.log2 < 1920) = true by simpa only [PyData.showable] using sh a ha, show decide (b.natAbs.log2 < 1920) = true by simpa only [PyData.showable] using sh b hb, show decide (c.natAbs.log2 < 1920) = true by simpa only [PyData.showable] using sh c hc]; rfl), by simp [PyData.depth, PyData.depthAll], ?_⟩
  refine Nat.le_trans (tup_len (ds := [.int a, .int b, .int c])) ?_
  have h1 := int_len (k := 31) (by decide) ha
  have h2 := int_len (k := 31) (by decide) hb
  have h3 := int_len (k := 31) (by decide) hc
  show 3 + ((PyData.int a).shown.length + 2 + ((PyData.int b).shown.length + 2 + ((PyData.int c).shown.length + 2 + 0))) ≤ 400
  omega
def spBadItem (K : PySem.W.Frag) : Sp := fun vs H Q _ => ∃ (b l : Addr) (c n : Nat), vs = [.ref b, .int (n : Int)] ∧ BagAt H b l c ∧ c ≤ 999000 ∧ 2 ≤ n ∧ n ≤ 60 ∧ ∀ H' x, BagAt H' b l (c + 2) → But b H H' → Bad K b H' x (n : Int) → Q x H'
section
variable {P : Program} {w : World} {K : PySem.W.Frag} {mg : Str → Option Value} {base : Heap}
theorem ok_one {f ft : Addr} {fd fdt : FuncData} {k : Nat} (F : Fun K "_law_one" "_law_one" sOne f fd) (GT : FnOk P w K mg base CX0 k ft fdt ["_law_bag_here", "_law_many"] spTake) (gT : mg "_law_take" = some (.ref ft)) (kT : PySem.W.keepIn K (.ref ft) = true)
    (bT : Binds K fdt ["_law_bag_here", "_law_many"] []) (ml : mg "len" = none) : FnOk P w K mg base CX0 (k + 1) f fd ["_law_bag_here", "_law_menu"] spOne := by
  refine F.ok scO (fun vs H Q E h => ?_) (fun cdv A outer s H vs Q E hr h => ?_)
  · obtain ⟨b, l, mn, xs, n, rfl, _⟩ := h
    rfl
  · obtain ⟨b, l, mn, xs, n, rfl, ne, hm, hx, hl, B, hn, q⟩ := h
    refine ⟨_, pss_one (ps_ret (pe_ix ix_list (pv 1) (pe_call GT hr rfl gT kT bT .nil pass0 (pa_cons (pv 0) (pa_cons (pe_callB call_len_seq (by rfl) ml PySem.boot_len (pa_cons (pv 1) pa_nil)) pa_nil))) (fun _ _ => rfl))), ?_⟩
    have h0 : 0 < xs.length := List.length_pos_iff.mpr hx
    refine ⟨.ref mn, rfl, .ref b, rfl, .ref mn, rfl, mn, xs, rfl, .inl (.inl (.inl hm)), b, l, (xs.length : Int), n, rfl, by omega, by omega, B, hn, fun r H' r0 r1 B' bt => ?_⟩
    have hr' : (r.toNat : Int) = r := Int.toNat_of_nonneg r0
    have hlt : r.toNat < xs.length := by omega
    have a1 := atI_nat (List.getElem?_eq_getElem hlt)
    rw [hr'] at a1
    exact ⟨mn, xs, r, _, rfl, rfl, .inl (.inl (bt mn _ ne hm)), a1, q _ _ (List.getElem_mem hlt) B' bt⟩
theorem ok_bad_item {f ft fo : Addr} {fd fdt fdo : FuncData} {k : Nat} (F : Fun K "_law_bad_item" "_law_bad_item" sBadItem f fd) (GT : FnOk P w K mg base CX0 k ft fdt ["_law_bag_here", "_law_many"] spTake) (gT : mg "_law_take" = some (.ref ft)) (kT : PySem.W.keepIn K (.ref ft) = true)
    (bT : Binds K fdt ["_law_bag_here", "_law_many"] []) (GO : FnOk P w K mg base CX0 k fo fdo ["_law_bag_here", "_law_menu"] spOne) (gO : mg "_law_one" = some (.ref fo)) (kO : PySem.W.keepIn K (.ref fo) = true) (bO : Binds K fdo ["_law_bag_here", "_law_menu"] []) :
    FnOk P w K mg base CX0 (k + 1) f fd ["_law_bag_here", "_law_size"] (spBadItem K) := by
  refine F.ok scBI (fun vs H Q E h => ?_) (fun cdv A outer s H vs Q E hr h => ?_)
  · obtain ⟨b, l, c, n, rfl, _⟩ := h
    rfl
  · obtain ⟨b, l, c, n, rfl, B, hc, hn2, hn, q⟩ := h
    refine ⟨_, pss_cons (ps_set (i := 2) scBI.nd rfl (Or.inl rfl) (pe_op op_add (pv 1) (pe_ix ix_list (pe_lst (pa_cons pe_int (pa_cons pe_int (pa_cons (pe_op op_pow pe_int pe_int) pa_nil)))) (pe_call GT hr rfl gT kT bT .nil pass0 (pa_cons (pv 0) (pa_cons pe_int pa_nil))) (fun _ _ => rfl))))
      (pss_cons (ps_set (i := 3) scBI.nd rfl (Or.inl rfl) (pe_lst (pa_cons (pe_tup (pa_cons pe_int (pa_cons pe_int (pa_cons pe_int pa_nil)))) (pa_cons (pe_tup (pa_cons (pv 2) (pa_cons pe_int (pa_cons pe_int pa_nil)))) (pa_cons (pe_tup (pa_cons pe_int (pa_cons (pv 2) (pa_cons pe_int pa_nil)))) (pa_cons (pe_tup (pa_cons pe_int (pa_cons (pe_un un_neg pe_int) (pa_cons pe_int pa_nil)))) (pa_cons (pe_tup (pa_cons (pe_un un_neg pe_int) (pa_cons pe_int (pa_cons pe_int pa_nil)))) (pa_cons (pe_tup (pa_cons pe_int (pa_cons pe_int (pa_cons (pe_un un_neg pe_int) pa_nil)))) (pa_cons (pe_tup (pa_cons pe_int (pa_cons pe_int (pa_cons pe_int pa_nil)))) (pa_cons (pe_tup (pa_cons pe_int (pa_cons pe_int pa_nil))) (pa_cons (pe_tup pa_nil) pa_nil)))))))))))
      (pss_cons (ps_set (i := 3) scBI.nd rfl (Or.inl rfl) (pe_op op_cat (pv 3) (pe_lst (pa_cons (pe_tup (pa_cons pe_int (pa_cons pe_int (pa_cons pe_int (pa_cons pe_int pa_nil))))) (pa_cons (pe_lst (pa_cons pe_int (pa_cons pe_int (pa_cons pe_int pa_nil)))) (pa_cons pe_non (pa_cons pe_int (pa_cons pe_str (pa_cons (pe_tup (pa_cons pe_int (pa_cons pe_int (pa_cons pe_bl pa_nil)))) (pa_cons (pe_tup (pa_cons pe_bl (pa_cons pe_int (pa_cons pe_int pa_nil)))) (pa_cons (pe_tup (pa_cons pe_int (pa_cons pe_bl (pa_cons pe_int pa_nil)))) (pa_cons (pe_tup (pa_cons pe_int (pa_cons pe_int (pa_cons pe_non pa_nil)))) pa_nil))))))))))))
      (pss_one (ps_ret (pe_call GO hr rfl gO kO bO .nil pass0 (pa_cons (pv 0) (pa_cons (pe_op op_cat (pv 3) (pe_lst (pa_cons (pe_tup (pa_cons pe_str (pa_cons pe_int (pa_cons pe_int pa_nil)))) (pa_cons (pe_tup (pa_cons pe_int (pa_cons pe_int (pa_cons pe_str pa_nil)))) (pa_cons (pe_tup (pa_cons (pe_tup (pa_cons pe_int (pa_cons pe_int pa_nil))) (pa_cons pe_int pa_nil))) (pa_cons (pe_tup (pa_cons pe_int (pa_cons pe_int (pa_cons (pe_tup (pa_cons pe_int pa_nil)) pa_nil)))) (pa_cons pe_dnewT (pa_cons (pe_lst pa_nil) (pa_cons (pe_tup (pa_cons pe_non (pa_cons pe_non (pa_cons pe_non pa_nil)))) pa_nil))))))))) pa_nil))))))), ?_⟩
    refine ⟨_, rfl, 10, 30, rfl, rfl, ⟨by decide, by decide, by decide⟩, (by show 3 ≤ sizeLine; decide), fun L nL => ?_⟩
    have hLb : L ≠ b := Ne.symm (let ⟨⟨_, h⟩, _⟩ := B.in'; ne_of_none h nL)
    have sL := same_upd (o := .lst [V.int 0, .int 1, .int (10 ^ (30 : Int).toNat)]) nL
    have hL : (upd H L (.lst [V.int 0, .int 1, .int (10 ^ (30 : Int).toNat)])) L = some (.lst [V.int 0, .int 1, .int (10 ^ (30 : Int).toNat)]) := upd_same
    have B1 := B.same sL
    generalize upd H L (.lst [V.int 0, .int 1, .int (10 ^ (30 : Int).toNat)]) = H1 at sL hL B1 ⊢
    refine ⟨_, rfl, b, l, 3, _, rfl, by decide, by decide, B1, by omega, fun r H2 r0 r1 B2 b2 => ?_⟩
    obtain ⟨e, e0, e1, hz⟩ : ∃ e : Int, 0 ≤ e ∧ e ≤ 1000000000000000000000000000000 ∧ atI [V.int 0, .int 1, .int (10 ^ (30 : Int).toNat)] r = some (.int e) := by
      have : r = 0 ∨ r = 1 ∨ r = 2 := by omega
      rcases this with rfl | rfl | rfl
      · exact ⟨0, by omega, by omega, atI_nat (j := 0) rfl⟩
      · exact ⟨1, by omega, by omega, atI_nat (j := 1) rfl⟩
      · exact ⟨10 ^ (30 : Int).toNat, by decide, by decide, atI_nat (j := 2) rfl⟩
    refine ⟨L, _, r, _, rfl, rfl, .inl (.inl (b2 _ _ hLb hL)), hz, (n : Int), e, rfl, rfl, ?_⟩
    obtain ⟨far, hfar⟩ : ∃ far : Int, (n : Int) + e = far := ⟨_, rfl⟩
    have hv : (fun (i j : Int) => V.int (i + j)) (n : Int) e = V.int far := by rw [← hfar]
    rw [hv]
    obtain ⟨⟨xb, hb0⟩, _⟩ := B2.in'
    have Q0 : Same H2 H2 := Same.refl _
    refine ⟨(by show 3 ≤ sizeLine; decide), fun p0 np0 => ?_⟩
    have S0 := same_upd (o := .tup [V.int 0, .int 0, .int 1]) np0
    have N0 : p0 ≠ b := Ne.symm (ne_of_none (Q0 _ _ hb0) np0)
    have T0 : (upd H2 p0 (.tup [V.int 0, .int 0, .int 1])) p0 = some (.tup [V.int 0, .int 0, .int 1]) := upd_same
    have Q1 := Q0.trans S0
    generalize upd H2 p0 (.tup [V.int 0, .int 0, .int 1]) = X0 at S0 T0 Q1 ⊢
    refine ⟨_, rfl, (by show 3 ≤ sizeLine; decide), fun p1 np1 => ?_⟩
    have S1 := same_upd (o := .tup [V.int far, .int 0, .int 1]) np1
    have N1 : p1 ≠ b := Ne.symm (ne_of_none (Q1 _ _ hb0) np1)
    have T1 : (upd X0 p1 (.tup [V.int far, .int 0, .int 1])) p1 = some (.tup [V.int far, .int 0, .int 1]) := upd_same
    have Q2 := Q1.trans S1
    generalize upd X0 p1 (.tup [V.int far, .int 0, .int 1]) = X1 at S1 T1 Q2 ⊢
    refine ⟨_, rfl, (by show 3 ≤ sizeLine; decide), fun p2 np2 => ?_⟩
    have S2 := same_upd (o := .tup [V.int 0, .int far, .int 1]) np2
    have N2 : p2 ≠ b := Ne.symm (ne_of_none (Q2 _ _ hb0) np2)
    have T2 : (upd X1 p2 (.tup [V.int 0, .int far, .int 1])) p2 = some (.tup [V.int 0, .int far, .int 1]) := upd_same
    have Q3 := Q2.trans S2
    generalize upd X1 p2 (.tup [V.int 0, .int far, .int 1]) = X2 at S2 T2 Q3 ⊢
    refine ⟨1, rfl, (by show 3 ≤ sizeLine; decide), fun p3 np3 => ?_⟩
    have S3 := same_upd (o := .tup [V.int 0, .int (-1), .int 1]) np3
    have N3 : p3 ≠ b := Ne.symm (ne_of_none (Q3 _ _ hb0) np3)
    have T3 : (upd X2 p3 (.tup [V.int 0, .int (-1), .int 1])) p3 = some (.tup [V.int 0, .int (-1), .int 1]) := upd_same
    have Q4 := Q3.trans S3
    generalize upd X2 p3 (.tup [V.int 0, .int (-1), .int 1]) = X3 at S3 T3 Q4 ⊢
    refine ⟨1, rfl, (by show 3 ≤ sizeLine; decide), fun p4 np4 => ?_⟩
    have S4 := same_upd (o := .tup [V.int (-1), .int 0, .int 1]) np4
    have N4 : p4 ≠ b := Ne.symm (ne_of_none (Q4 _ _ hb0) np4)
    have T4 : (upd X3 p4 (.tup [V.int (-1), .int 0, .int 1])) p4 = some (.tup [V.int (-1), .int 0, .int 1]) := upd_same
    have Q5 := Q4.trans S4
    generalize upd X3 p4 (.tup [V.int (-1), .int 0, .int 1]) = X4 at S4 T4 Q5 ⊢
    refine ⟨1, rfl, (by show 3 ≤ sizeLine; decide), fun p5 np5 => ?_⟩
    have S5 := same_upd (o := .tup [V.int 0, .int 1, .int (-1)]) np5
    have N5 : p5 ≠ b := Ne.symm (ne_of_none (Q5 _ _ hb0) np5)
    have T5 : (upd X4 p5 (.tup [V.int 0, .int 1, .int (-1)])) p5 = some (.tup [V.int 0, .int 1, .int (-1)]) := upd_same
    have Q6 := Q5.trans S5
    generalize upd X4 p5 (.tup [V.int 0, .int 1, .int (-1)]) = X5 at S5 T5 Q6 ⊢
    refine ⟨(by show 3 ≤ sizeLine; decide), fun p6 np6 => ?_⟩
    have S6 := same_upd (o := .tup [V.int 0, .int 1, .int 1000000001]) np6
    have N6 : p6 ≠ b := Ne.symm (ne_of_none (Q6 _ _ hb0) np6)
    have T6 : (upd X5 p6 (.tup [V.int 0, .int 1, .int 1000000001])) p6 = some (.tup [V.int 0, .int 1, .int 1000000001]) := upd_same
    have Q7 := Q6.trans S6
    generalize upd X5 p6 (.tup [V.int 0, .int 1, .int 1000000001]) = X6 at S6 T6 Q7 ⊢
    refine ⟨(by show 2 ≤ sizeLine; decide), fun p7 np7 => ?_⟩
    have S7 := same_upd (o := .tup [V.int 0, .int 1]) np7
    have N7 : p7 ≠ b := Ne.symm (ne_of_none (Q7 _ _ hb0) np7)
    have T7 : (upd X6 p7 (.tup [V.int 0, .int 1])) p7 = some (.tup [V.int 0, .int 1]) := upd_same
    have Q8 := Q7.trans S7
    generalize upd X6 p7 (.tup [V.int 0, .int 1]) = X7 at S7 T7 Q8 ⊢
    refine ⟨(by show 0 ≤ sizeLine; decide), fun p8 np8 => ?_⟩
    have S8 := same_upd (o := .tup []) np8
    have N8 : p8 ≠ b := Ne.symm (ne_of_none (Q8 _ _ hb0) np8)
    have T8 : (upd X7 p8 (.tup [])) p8 = some (.tup []) := upd_same
    have Q9 := Q8.trans S8
    generalize upd X7 p8 (.tup []) = X8 at S8 T8 Q9 ⊢
    refine ⟨(by show 9 ≤ sizeLine; decide), fun p9 np9 => ?_⟩
    have S9 := same_upd (o := .lst [V.ref p0, .ref p1, .ref p2, .ref p3, .ref p4, .ref p5, .ref p6, .ref p7, .ref p8]) np9
    have N9 : p9 ≠ b := Ne.symm (ne_of_none (Q9 _ _ hb0) np9)
    have T9 : (upd X8 p9 (.lst [V.ref p0, .ref p1, .ref p2, .ref p3, .ref p4, .ref p5, .ref p6, .ref p7, .ref p8])) p9 = some (.lst [V.ref p0, .ref p1, .ref p2, .ref p3, .ref p4, .ref p5, .ref p6, .ref p7, .ref p8]) := upd_same
    have Q10 := Q9.trans S9
    generalize upd X8 p9 (.lst [V.ref p0, .ref p1, .ref p2, .ref p3, .ref p4, .ref p5, .ref p6, .ref p7, .ref p8]) = X9 at S9 T9 Q10 ⊢
    refine ⟨_, rfl, (by show 4 ≤ sizeLine; decide), fun p10 np10 => ?_⟩
    have S10 := same_upd (o := .tup [V.int 0, .int 1, .int 1, .int 1]) np10
    have N10 : p10 ≠ b := Ne.symm (ne_of_none (Q10 _ _ hb0) np10)
    have T10 : (upd X9 p10 (.tup [V.int 0, .int 1, .int 1, .int 1])) p10 = some (.tup [V.int 0, .int 1, .int 1, .int 1]) := upd_same
    have Q11 := Q10.trans S10
    generalize upd X9 p10 (.tup [V.int 0, .int 1, .int 1, .int 1]) = X10 at S10 T10 Q11 ⊢
    refine ⟨(by show 3 ≤ sizeLine; decide), fun p11 np11 => ?_⟩
    have S11 := same_upd (o := .lst [V.int 0, .int 1, .int 1]) np11
    have N11 : p11 ≠ b := Ne.symm (ne_of_none (Q11 _ _ hb0) np11)
    have T11 : (upd X10 p11 (.lst [V.int 0, .int 1, .int 1])) p11 = some (.lst [V.int 0, .int 1, .int 1]) := upd_same
    have Q12 := Q11.trans S11
    generalize upd X10 p11 (.lst [V.int 0, .int 1, .int 1]) = X11 at S11 T11 Q12 ⊢
    refine ⟨(by show 3 ≤ sizeLine; decide), fun p12 np12 => ?_⟩
    have S12 := same_upd (o := .tup [V.int 0, .int 1, .bl true]) np12
    have N12 : p12 ≠ b := Ne.symm (ne_of_none (Q12 _ _ hb0) np12)
    have T12 : (upd X11 p12 (.tup [V.int 0, .int 1, .bl true])) p12 = some (.tup [V.int 0, .int 1, .bl true]) := upd_same
    have Q13 := Q12.trans S12
    generalize upd X11 p12 (.tup [V.int 0, .int 1, .bl true]) = X12 at S12 T12 Q13 ⊢
    refine ⟨(by show 3 ≤ sizeLine; decide), fun p13 np13 => ?_⟩
    have S13 := same_upd (o := .tup [V.bl false, .int 1, .int 1]) np13
    have N13 : p13 ≠ b := Ne.symm (ne_of_none (Q13 _ _ hb0) np13)
    have T13 : (upd X12 p13 (.tup [V.bl false, .int 1, .int 1])) p13 = some (.tup [V.bl false, .int 1, .int 1]) := upd_same
    have Q14 := Q13.trans S13
    generalize upd X12 p13 (.tup [V.bl false, .int 1, .int 1]) = X13 at S13 T13 Q14 ⊢
    refine ⟨(by show 3 ≤ sizeLine; decide), fun p14 np14 => ?_⟩
    have S14 := same_upd (o := .tup [V.int 0, .bl true, .int 1]) np14
    have N14 : p14 ≠ b := Ne.symm (ne_of_none (Q14 _ _ hb0) np14)
    have T14 : (upd X13 p14 (.tup [V.int 0, .bl true, .int 1])) p14 = some (.tup [V.int 0, .bl true, .int 1]) := upd_same
    have Q15 := Q14.trans S14
    generalize upd X13 p14 (.tup [V.int 0, .bl true, .int 1]) = X14 at S14 T14 Q15 ⊢
    refine ⟨(by show 3 ≤ sizeLine; decide), fun p15 np15 => ?_⟩
    have S15 := same_upd (o := .tup [V.int 0, .int 1, .non]) np15
    have N15 : p15 ≠ b := Ne.symm (ne_of_none (Q15 _ _ hb0) np15)
    have T15 : (upd X14 p15 (.tup [V.int 0, .int 1, .non])) p15 = some (.tup [V.int 0, .int 1, .non]) := upd_same
    have Q16 := Q15.trans S15
    generalize upd X14 p15 (.tup [V.int 0, .int 1, .non]) = X15 at S15 T15 Q16 ⊢
    refine ⟨(by show 9 ≤ sizeLine; decide), fun p16 np16 => ?_⟩
    have S16 := same_upd (o := .lst [V.ref p10, .ref p11, .non, .int 3, .str "011", .ref p12, .ref p13, .ref p14, .ref p15]) np16
    have N16 : p16 ≠ b := Ne.symm (ne_of_none (Q16 _ _ hb0) np16)
    have T16 : (upd X15 p16 (.lst [V.ref p10, .ref p11, .non, .int 3, .str "011", .ref p12, .ref p13, .ref p14, .ref p15])) p16 = some (.lst [V.ref p10, .ref p11, .non, .int 3, .str "011", .ref p12, .ref p13, .ref p14, .ref p15]) := upd_same
    have Q17 := Q16.trans S16
    generalize upd X15 p16 (.lst [V.ref p10, .ref p11, .non, .int 3, .str "011", .ref p12, .ref p13, .ref p14, .ref p15]) = X16 at S16 T16 Q17 ⊢
    refine ⟨p9, p16, _, _, rfl, rfl, ((S10.trans (S11.trans (S12.trans (S13.trans (S14.trans (S15.trans S16)))))) _ _ T9), T16, (by show 18 ≤ sizeLine; decide), fun p17 np17 => ?_⟩
    have S17 := same_upd (o := .lst ([V.ref p0, .ref p1, .ref p2, .ref p3, .ref p4, .ref p5, .ref p6, .ref p7, .ref p8] ++ [V.ref p10, .ref p11, .non, .int 3, .str "011", .ref p12, .ref p13, .ref p14, .ref p15])) np17
    have N17 : p17 ≠ b := Ne.symm (ne_of_none (Q17 _ _ hb0) np17)
    have T17 : (upd X16 p17 (.lst ([V.ref p0, .ref p1, .ref p2, .ref p3, .ref p4, .ref p5, .ref p6, .ref p7, .ref p8] ++ [V.ref p10, .ref p11, .non, .int 3, .str "011", .ref p12, .ref p13, .ref p14, .ref p15]))) p17 = some (.lst ([V.ref p0, .ref p1, .ref p2, .ref p3, .ref p4, .ref p5, .ref p6, .ref p7, .ref p8] ++ [V.ref p10, .ref p11, .non, .int 3, .str "011", .ref p12, .ref p13, .ref p14, .ref p15])) := upd_same
    have Q18 := Q17.trans S17
    generalize upd X16 p17 (.lst ([V.ref p0, .ref p1, .ref p2, .ref p3, .ref p4, .ref p5, .ref p6, .ref p7, .ref p8] ++ [V.ref p10, .ref p11, .non, .int 3, .str "011", .ref p12, .ref p13, .ref p14, .ref p15])) = X17 at S17 T17 Q18 ⊢
    refine ⟨_, rfl, _, rfl, (by show 3 ≤ sizeLine; decide), fun p18 np18 => ?_⟩
    have S18 := same_upd (o := .tup [V.str "0", .int 1, .int 1]) np18
    have N18 : p18 ≠ b := Ne.symm (ne_of_none (Q18 _ _ hb0) np18)
    have T18 : (upd X17 p18 (.tup [V.str "0", .int 1, .int 1])) p18 = some (.tup [V.str "0", .int 1, .int 1]) := upd_same
    have Q19 := Q18.trans S18
    generalize upd X17 p18 (.tup [V.str "0", .int 1, .int 1]) = X18 at S18 T18 Q19 ⊢
    refine ⟨(by show 3 ≤ sizeLine; decide), fun p19 np19 => ?_⟩
    have S19 := same_upd (o := .tup [V.int 0, .int 1, .str "1"]) np19
    have N19 : p19 ≠ b := Ne.symm (ne_of_none (Q19 _ _ hb0) np19)
    have T19 : (upd X18 p19 (.tup [V.int 0, .int 1, .str "1"])) p19 = some (.tup [V.int 0, .int 1, .str "1"]) := upd_same
    have Q20 := Q19.trans S19
    generalize upd X18 p19 (.tup [V.int 0, .int 1, .str "1"]) = X19 at S19 T19 Q20 ⊢
    refine ⟨(by show 2 ≤ sizeLine; decide), fun p20 np20 => ?_⟩
    have S20 := same_upd (o := .tup [V.int 0, .int 1]) np20
    have N20 : p20 ≠ b := Ne.symm (ne_of_none (Q20 _ _ hb0) np20)
    have T20 : (upd X19 p20 (.tup [V.int 0, .int 1])) p20 = some (.tup [V.int 0, .int 1]) := upd_same
    have Q21 := Q20.trans S20
    generalize upd X19 p20 (.tup [V.int 0, .int 1]) = X20 at S20 T20 Q21 ⊢
    refine ⟨(by show 2 ≤ sizeLine; decide), fun p21 np21 => ?_⟩
    have S21 := same_upd (o := .tup [V.ref p20, .int 1]) np21
    have N21 : p21 ≠ b := Ne.symm (ne_of_none (Q21 _ _ hb0) np21)
    have T21 : (upd X20 p21 (.tup [V.ref p20, .int 1])) p21 = some (.tup [V.ref p20, .int 1]) := upd_same
    have Q22 := Q21.trans S21
    generalize upd X20 p21 (.tup [V.ref p20, .int 1]) = X21 at S21 T21 Q22 ⊢
    refine ⟨(by show 1 ≤ sizeLine; decide), fun p22 np22 => ?_⟩
    have S22 := same_upd (o := .tup [V.int 1]) np22
    have N22 : p22 ≠ b := Ne.symm (ne_of_none (Q22 _ _ hb0) np22)
    have T22 : (upd X21 p22 (.tup [V.int 1])) p22 = some (.tup [V.int 1]) := upd_same
    have Q23 := Q22.trans S22
    generalize upd X21 p22 (.tup [V.int 1]) = X22 at S22 T22 Q23 ⊢
    refine ⟨(by show 3 ≤ sizeLine; decide), fun p23 np23 => ?_⟩
    have S23 := same_upd (o := .tup [V.int 0, .int 1, .ref p22]) np23
    have N23 : p23 ≠ b := Ne.symm (ne_of_none (Q23 _ _ hb0) np23)
    have T23 : (upd X22 p23 (.tup [V.int 0, .int 1, .ref p22])) p23 = some (.tup [V.int 0, .int 1, .ref p22]) := upd_same
    have Q24 := Q23.trans S23
    generalize upd X22 p23 (.tup [V.int 0, .int 1, .ref p22]) = X23 at S23 T23 Q24 ⊢
    refine fun p24 np24 => ?_
    have S24 := same_upd (o := .dT []) np24
    have N24 : p24 ≠ b := Ne.symm (ne_of_none (Q24 _ _ hb0) np24)
    have T24 : (upd X23 p24 (.dT [])) p24 = some (.dT []) := upd_same
    have Q25 := Q24.trans S24
    generalize upd X23 p24 (.dT []) = X24 at S24 T24 Q25 ⊢
    refine ⟨(by show 0 ≤ sizeLine; decide), fun p25 np25 => ?_⟩
    have S25 := same_upd (o := .lst []) np25
    have N25 : p25 ≠ b := Ne.symm (ne_of_none (Q25 _ _ hb0) np25)
    have T25 : (upd X24 p25 (.lst [])) p25 = some (.lst []) := upd_same
    have Q26 := Q25.trans S25
    generalize upd X24 p25 (.lst []) = X25 at S25 T25 Q26 ⊢
    refine ⟨(by show 3 ≤ sizeLine; decide), fun p26 np26 => ?_⟩
    have S26 := same_upd (o := .tup [V.non, .non, .non]) np26
    have N26 : p26 ≠ b := Ne.symm (ne_of_none (Q26 _ _ hb0) np26)
    have T26 : (upd X25 p26 (.tup [V.non, .non, .non])) p26 = some (.tup [V.non, .non, .non]) := upd_same
    have Q27 := Q26.trans S26
    generalize upd X25 p26 (.tup [V.non, .non, .non]) = X26 at S26 T26 Q27 ⊢
    refine ⟨(by show 7 ≤ sizeLine; decide), fun p27 np27 => ?_⟩
    have S27 := same_upd (o := .lst [V.ref p18, .ref p19, .ref p21, .ref p23, .ref p24, .ref p25, .ref p26]) np27
    have N27 : p27 ≠ b := Ne.symm (ne_of_none (Q27 _ _ hb0) np27)
    have T27 : (upd X26 p27 (.lst [V.ref p18, .ref p19, .ref p21, .ref p23, .ref p24, .ref p25, .ref p26])) p27 = some (.lst [V.ref p18, .ref p19, .ref p21, .ref p23, .ref p24, .ref p25, .ref p26]) := upd_same
    have Q28 := Q27.trans S27
    generalize upd X26 p27 (.lst [V.ref p18, .ref p19, .ref p21, .ref p23, .ref p24, .ref p25, .ref p26]) = X27 at S27 T27 Q28 ⊢
    refine ⟨p17, p27, _, _, rfl, rfl, ((S18.trans (S19.trans (S20.trans (S21.trans (S22.trans (S23.trans (S24.trans (S25.trans (S26.trans S27))))))))) _ _ T17), T27, (by show 25 ≤ sizeLine; decide), fun p28 np28 => ?_⟩
    have S28 := same_upd (o := .lst (([V.ref p0, .ref p1, .ref p2, .ref p3, .ref p4, .ref p5, .ref p6, .ref p7, .ref p8] ++ [V.ref p10, .ref p11, .non, .int 3, .str "011", .ref p12, .ref p13, .ref p14, .ref p15]) ++ [V.ref p18, .ref p19, .ref p21, .ref p23, .ref p24, .ref p25, .ref p26])) np28
    have N28 : p28 ≠ b := Ne.symm (ne_of_none (Q28 _ _ hb0) np28)
    have T28 : (upd X27 p28 (.lst (([V.ref p0, .ref p1, .ref p2, .ref p3, .ref p4, .ref p5, .ref p6, .ref p7, .ref p8] ++ [V.ref p10, .ref p11, .non, .int 3, .str "011", .ref p12, .ref p13, .ref p14, .ref p15]) ++ [V.ref p18, .ref p19, .ref p21, .ref p23, .ref p24, .ref p25, .ref p26]))) p28 = some (.lst (([V.ref p0, .ref p1, .ref p2, .ref p3, .ref p4, .ref p5, .ref p6, .ref p7, .ref p8] ++ [V.ref p10, .ref p11, .non, .int 3, .str "011", .ref p12, .ref p13, .ref p14, .ref p15]) ++ [V.ref p18, .ref p19, .ref p21, .ref p23, .ref p24, .ref p25, .ref p26])) := upd_same
    have Q29 := Q28.trans S28
    generalize upd X27 p28 (.lst (([V.ref p0, .ref p1, .ref p2, .ref p3, .ref p4, .ref p5, .ref p6, .ref p7, .ref p8] ++ [V.ref p10, .ref p11, .non, .int 3, .str "011", .ref p12, .ref p13, .ref p14, .ref p15]) ++ [V.ref p18, .ref p19, .ref p21, .ref p23, .ref p24, .ref p25, .ref p26])) = X28 at S28 T28 Q29 ⊢
    have R28 : Same X28 X28 := Same.refl _
    have R27 := S28.trans R28
    have R26 := S27.trans R27
    have R25 := S26.trans R26
    have R24 := S25.trans R25
    have R23 := S24.trans R24
    have R22 := S23.trans R23
    have R21 := S22.trans R22
    have R20 := S21.trans R21
    have R19 := S20.trans R20
    have R18 := S19.trans R19
    have R17 := S18.trans R18
    have R16 := S17.trans R17
    have R15 := S16.trans R16
    have R14 := S15.trans R15
    have R13 := S14.trans R14
    have R12 := S13.trans R13
    have R11 := S12.trans R12
    have R10 := S11.trans R11
    have R9 := S10.trans R10
    have R8 := S9.trans R9
    have R7 := S8.trans R8
    have R6 := S7.trans R7
    have R5 := S6.trans R6
    have R4 := S5.trans R5
    have R3 := S4.trans R4
    have R2 := S3.trans R3
    have R1 := S2.trans R2
    have R0 := S1.trans R1
    have G0 := R0 _ _ T0
    have G1 := R1 _ _ T1
    have G2 := R2 _ _ T2
    have G3 := R3 _ _ T3
    have G4 := R4 _ _ T4
    have G5 := R5 _ _ T5
    have G6 := R6 _ _ T6
    have G7 := R7 _ _ T7
    have G8 := R8 _ _ T8
    have G9 := R9 _ _ T9
    have G10 := R10 _ _ T10
    have G11 := R11 _ _ T11
    have G12 := R12 _ _ T12
    have G13 := R13 _ _ T13
    have G14 := R14 _ _ T14
    have G15 := R15 _ _ T15
    have G16 := R16 _ _ T16
    have G17 := R17 _ _ T17
    have G18 := R18 _ _ T18
    have G19 := R19 _ _ T19
    have G20 := R20 _ _ T20
    have G21 := R21 _ _ T21
    have G22 := R22 _ _ T22
    have G23 := R23 _ _ T23
    have G24 := R24 _ _ T24
    have G25 := R25 _ _ T25
    have G26 := R26 _ _ T26
    have G27 := R27 _ _ T27
    have G28 := R28 _ _ T28
    refine ⟨b, l, p28, _, c + 1, rfl, N28, T28, (by intro z; cases z), (by show 25 ≤ 1000; decide), B2.same Q29, by omega, fun v H3 hv B3 b3 => ?_⟩
    have fin : Bad K b X28 v (n : Int) → Q v H3 := fun h => q H3 v B3 (fun z o hz ho => b3 z o hz (Q29 _ _ (b2 z o hz (sL _ _ ho)))) (h.but b3)
    refine fin ?_
    clear fin q
    simp only [List.mem_append, List.mem_cons, List.not_mem_nil, or_false] at hv
    rcases hv with (hv | hv) | hv
    · rcases hv with rfl | rfl | rfl | rfl | rfl | rfl | rfl | rfl | rfl
      · exact bad_tri G0 N0 (fun _ _ => any_int _) (fun _ _ => any_int _) (fun _ _ => any_int _) (by simp [pairB, fromToB] <;> omega) (fun H' s => (.cons (.int _) (.cons (.int _) (.cons (.int _) .nil)))) (by decide +kernel)
      · exact bad_tri G1 N1 (fun _ _ => any_int _) (fun _ _ => any_int _) (fun _ _ => any_int _) (by simp [pairB, fromToB] <;> omega) (fun H' s => (.cons (.int _) (.cons (.int _) (.cons (.int _) .nil)))) (far_ok (by omega) (by omega) (by omega))
      · exact bad_tri G2 N2 (fun _ _ => any_int _) (fun _ _ => any_int _) (fun _ _ => any_int _) (by simp [pairB, fromToB] <;> omega) (fun H' s => (.cons (.int _) (.cons (.int _) (.cons (.int _) .nil)))) (far_ok (by omega) (by omega) (by omega))
      · exact bad_tri G3 N3 (fun _ _ => any_int _) (fun _ _ => any_int _) (fun _ _ => any_int _) (by simp [pairB, fromToB] <;> omega) (fun H' s => (.cons (.int _) (.cons (.int _) (.cons (.int _) .nil)))) (by decide +kernel)
      · exact bad_tri G4 N4 (fun _ _ => any_int _) (fun _ _ => any_int _) (fun _ _ => any_int _) (by simp [pairB, fromToB] <;> omega) (fun H' s => (.cons (.int _) (.cons (.int _) (.cons (.int _) .nil)))) (by decide +kernel)
      · exact bad_tri G5 N5 (fun _ _ => any_int _) (fun _ _ => any_int _) (fun _ _ => any_int _) (by simp [pairB, fromToB] <;> omega) (fun H' s => (.cons (.int _) (.cons (.int _) (.cons (.int _) .nil)))) (by decide +kernel)
      · exact bad_tri G6 N6 (fun _ _ => any_int _) (fun _ _ => any_int _) (fun _ _ => any_int _) (by simp [pairB, fromToB] <;> omega) (fun H' s => (.cons (.int _) (.cons (.int _) (.cons (.int _) .nil)))) (by decide +kernel)
      · exact bad_len G7 N7 (by simp) (fun H' s => (.cons (.int _) (.cons (.int _) .nil))) (by decide +kernel)
      · exact bad_len G8 N8 (by simp) (fun H' s => .nil) (by decide +kernel)
    · rcases hv with rfl | rfl | rfl | rfl | rfl | rfl | rfl | rfl | rfl
      · exact bad_len G10 N10 (by simp) (fun H' s => (.cons (.int _) (.cons (.int _) (.cons (.int _) (.cons (.int _) .nil))))) (by decide +kernel)
      · exact bad_base (kit_ty (r := false) (by decide +kernel)) (fun _ s => .base (.lst (s _ _ N11 G11))) (fun _ s => .lst (s _ _ N11 G11) (.cons (.int _) (.cons (.int _) (.cons (.int _) .nil)))) (by decide +kernel)
      · exact bad_base (kit_ty (r := false) (by decide +kernel)) (fun _ _ => .base .non) (fun _ _ => .non) (by decide +kernel)
      · exact bad_base (kit_ty (r := false) (by decide +kernel)) (fun _ _ => .base (.int _)) (fun _ _ => .int _) (by decide +kernel)
      · exact bad_base (kit_ty (r := false) (by decide +kernel)) (fun _ _ => .base (.str _)) (fun _ _ => .str _) (by decide +kernel)
      · exact bad_tri G12 N12 (fun _ _ => any_int _) (fun _ _ => any_int _) (fun _ _ => any_bl _) (by simp [pairB, fromToB] <;> omega) (fun H' s => (.cons (.int _) (.cons (.int _) (.cons (.bl _) .nil)))) (by decide +kernel)
      · exact bad_tri G13 N13 (fun _ _ => any_bl _) (fun _ _ => any_int _) (fun _ _ => any_int _) (by simp [pairB, fromToB] <;> omega) (fun H' s => (.cons (.bl _) (.cons (.int _) (.cons (.int _) .nil)))) (by decide +kernel)
      · exact bad_tri G14 N14 (fun _ _ => any_int _) (fun _ _ => any_bl _) (fun _ _ => any_int _) (by simp [pairB, fromToB] <;> omega) (fun H' s => (.cons (.int _) (.cons (.bl _) (.cons (.int _) .nil)))) (by decide +kernel)
      · exact bad_tri G15 N15 (fun _ _ => any_int _) (fun _ _ => any_int _) (fun _ _ => any_non) (by simp [pairB, fromToB] <;> omega) (fun H' s => (.cons (.int _) (.cons (.int _) (.cons .non .nil)))) (by decide +kernel)
    · rcases hv with rfl | rfl | rfl | rfl | rfl | rfl | rfl
      · exact bad_tri G18 N18 (fun _ _ => any_str _) (fun _ _ => any_int _) (fun _ _ => any_int _) (by simp [pairB, fromToB] <;> omega) (fun H' s => (.cons (.str _) (.cons (.int _) (.cons (.int _) .nil)))) (by decide +kernel)
      · exact bad_tri G19 N19 (fun _ _ => any_int _) (fun _ _ => any_int _) (fun _ _ => any_str _) (by simp [pairB, fromToB] <;> omega) (fun H' s => (.cons (.int _) (.cons (.int _) (.cons (.str _) .nil)))) (by decide +kernel)
      · exact bad_len G21 N21 (by simp) (fun H' s => (.cons (.tup (.inl (.inl (s _ _ N20 G20))) (.cons (.int _) (.cons (.int _) .nil))) (.cons (.int _) .nil))) (by decide +kernel)
      · exact bad_tri G23 N23 (fun _ _ => any_int _) (fun _ _ => any_int _) (fun H' s => any_tup (s _ _ N22 G22)) (by simp [pairB, fromToB] <;> omega) (fun H' s => (.cons (.int _) (.cons (.int _) (.cons (.tup (.inl (.inl (s _ _ N22 G22))) (.cons (.int _) .nil)) .nil)))) (by decide +kernel)
      · exact bad_base (kit_ty (r := false) (by decide +kernel)) (fun _ s => .base (.dT (s _ _ N24 G24))) (fun _ s => .emp (s _ _ N24 G24)) (by decide +kernel)
      · exact bad_base (kit_ty (r := false) (by decide +kernel)) (fun _ s => .base (.lst (s _ _ N25 G25))) (fun _ s => .lst (s _ _ N25 G25) .nil) (by decide +kernel)
      · exact bad_tri G26 N26 (fun _ _ => any_non) (fun _ _ => any_non) (fun _ _ => any_non) (by simp [pairB, fromToB] <;> omega) (fun H' s => (.cons .non (.cons .non (.cons .non .nil)))) (by decide +kernel)
end
end T22
/-! Sizes that are none. -/
namespace T22
open PySem PySem.Spec PyProof.Rows L2 Wk
abbrev sBadSize : Stmt := top 32
theorem scBS : FnScope ["_law_bag_here"] ["_law_bag_here"] (defScope sBadSize) := ⟨rfl, rfl, rfl, by decide +kernel, rfl, by decide +kernel, by decide +kernel⟩
theorem any_dT {K : PySem.W.Frag} {H : Hp} {a : Addr} {kvs : List (List Key × V)} (h : H a = some (.dT kvs)) : AnyV K H (.ref a) (.type "dict") := ⟨.base (.dT h), kit_ty (r := false) (by decide +kernel), kit_ty (r := false) (by decide +kernel)⟩
/-- a def of the module, as it is called -/
structure Has (P : Program) (w : World) (K : PySem.W.Frag) (mg : Str → Option Value) (base : Heap) (k : Nat) (n : Str) (ps : List Str) (sp : Sp) (f : Addr) (fd : FuncData) : Prop where
  F : FnOk P w K mg base CX0 k f fd ps sp
  g : mg n = some (.ref f)
  k : PySem.W.keepIn K (.ref f) = true
  b : Binds K fd ps []
/-- the class, as webs are made; a web is no integer and no truth -/
structure MakW (P : Program) (w : World) (K : PySem.W.Frag) (mg : Str → Option Value) (base : Heap) (C : Addr) (k : Nat) (fi : Addr) (di : FuncData) (aE : Addr) : Prop where
  M : Mk K C fi
  F : FnOk P w K mg base CX0 k fi di ["self", "size", "ties"] (spInit K C)
  b1 : Binds K di ["self", "size", "ties"] [.ref aE]
  e : ∀ H, SqT K H aE []
  g : mg "Web" = some (.ref C)
  ni : PySem.W.kitOne K (.ref C) (.type "int") = some false
  nb : PySem.W.kitOne K (.ref C) (.type "bool") = some false
theorem init_of {K : PySem.W.Frag} {C x dx a : Addr} {H : Hp} {n : Nat} {xs : List V} {ps : List T3} {E : XK} {R : Hp → Prop} (hx : H x = none) (hdx : H dx = none) (hne : dx ≠ x) (hn : n ≤ 60) (hS : SqS K H a xs) (hT : Trs K H xs ps) (h64 : ps.length < 64)
    (hv : ∀ p ∈ ps, tieB p.1 p.2.1 p.2.2 (n : Int) = true) (ham : ∀ u v, amt (ps.map norm) u v ≤ 1000000000) (q : ∀ H' T, Same H H' → TiesOf (n : Int) (amt (ps.map norm)) T → WebAt K C H' x n T → R H') :
    spInit K C [.ref x, .int (n : Int), .ref a] (upd (upd H dx (.own x)) x (.ins C dx [])) (fun v H2 => v = .non ∧ R H2) E := by
  have s1 : Same H (upd (upd H dx (.own x)) x (.ins C dx [])) := (same_upd hdx).trans (same_upd (by rw [upd_ne (Ne.symm hne)]; exact hx))
  refine ⟨x, n, a, dx, xs, ps, rfl, upd_same, hn, hS.ext s1, hT.same s1, h64, hv, ham, fun H' T b t w => ⟨rfl, q H' T (fun z o hz => b z o (ne_of_none hz hx) (s1 _ _ hz)) t w⟩⟩
theorem vE (a : Addr) : Vals [V.ref a] [Value.ref a] := .cons (show RelV (.ref a) (.ref a) from rfl) .nil
/-- no size, whatever becomes of the bag at b -/
def BadSize (K : PySem.W.Frag) (b : Addr) (H : Hp) (y : V) : Prop := fromToB y 0 60 = false ∧ ∀ H', But b H H' → ∃ ty, AnyV K H' y ty
def spBadSize (K : PySem.W.Frag) : Sp := fun vs H Q _ => ∃ (b l : Addr) (c : Nat), vs = [.ref b] ∧ BagAt H b l c ∧ c ≤ 999000 ∧ ∀ H' y, BagAt H' b l (c + 1) → But b H H' → BadSize K b H' y → Q y H'
section
variable {P : Program} {w : World} {K : PySem.W.Frag} {mg : Str → Option Value} {base : Heap}
theorem ok_bad_size {C f fo fi aE : Addr} {fd fdo di : FuncData} {k : Nat} (F : Fun K "_law_bad_size" "_law_bad_size" sBadSize f fd) (G : KindW K mg C) (MW : MakW P w K mg base C k fi di aE) (GO : Has P w K mg base (k + 1) "_law_one" ["_law_bag_here", "_law_menu"] spOne fo fdo) :
    FnOk P w K mg base CX0 (k + 2) f fd ["_law_bag_here"] (spBadSize K) := by
  refine F.ok scBS (fun vs H Q E h => ?_) (fun cdv A outer s H vs Q E hr h => ?_)
  · obtain ⟨b, l, c, rfl, _⟩ := h
    rfl
  · obtain ⟨b, l, c, rfl, B, hc, q⟩ := h
    obtain ⟨⟨xb, hb0⟩, _⟩ := B.in'
    refine ⟨_, pss_one (ps_ret (pe_call GO.F hr rfl GO.g GO.k GO.b .nil pass0 (pa_cons (pv 0) (pa_cons (pe_lst (pa_cons (pe_un un_neg pe_int) (pa_cons pe_int (pa_cons pe_non (pa_cons pe_bl (pa_cons pe_bl (pa_cons pe_str (pa_cons (pe_tup (pa_cons pe_int pa_nil)) (pa_cons (pe_lst pa_nil) (pa_cons pe_dnewT
      (pa_cons (pe_op op_pow pe_int pe_int) (pa_cons (pe_un un_neg (pe_op op_pow pe_int pe_int)) (pa_cons (pe_make MW.M MW.F hr rfl MW.g MW.b1 (vE aE) pass0 (pa_cons pe_int pa_nil)) pa_nil))))))))))))) pa_nil)))), ?_⟩
    refine ⟨_, rfl, 1, rfl, (by show 1 ≤ sizeLine; decide), fun p1 n1 => ?_⟩
    have s1 := same_upd (o := .tup [V.int 3]) n1
    have t1 : (upd H p1 (.tup [V.int 3])) p1 = some (.tup [V.int 3]) := upd_same
    have e1 : p1 ≠ b := Ne.symm (ne_of_none hb0 n1)
    generalize upd H p1 (.tup [V.int 3]) = H1 at s1 t1 ⊢
    refine ⟨(by show 0 ≤ sizeLine; decide), fun p2 n2 => ?_⟩
    have s2 := same_upd (o := .lst []) n2
    have t2 : (upd H1 p2 (.lst [])) p2 = some (.lst []) := upd_same
    have e2 : p2 ≠ b := Ne.symm (ne_of_none (s1 _ _ hb0) n2)
    generalize upd H1 p2 (.lst []) = H2 at s2 t2 ⊢
    refine fun p3 n3 => ?_
    have s3 := same_upd (o := .dT []) n3
    have t3 : (upd H2 p3 (.dT [])) p3 = some (.dT []) := upd_same
    have e3 : p3 ≠ b := Ne.symm (ne_of_none (s2 _ _ (s1 _ _ hb0)) n3)
    generalize upd H2 p3 (.dT []) = H3 at s3 t3 ⊢
    refine ⟨10, 20, rfl, rfl, ⟨by decide, by decide, by decide⟩, 10, 20, rfl, rfl, ⟨by decide, by decide, by decide⟩, _, rfl, ?_⟩
    refine fun x dx hx hdx hne => init_of (ps := []) (xs := []) (n := 2) hx hdx hne (by decide) (.inr (MW.e _)) True.intro (by decide) (fun p hp => by cases hp) (fun u v => by show (0 : Int) ≤ _; decide) (fun H4 T4 s4 _ w4 => ?_)
    have s123 := s1.trans (s2.trans s3)
    have e4 : x ≠ b := Ne.symm (ne_of_none (s123 _ _ hb0) hx)
    obtain ⟨dx4, t4, ys4, d4, g4, h4, _⟩ := w4.ex
    refine ⟨(by show 12 ≤ sizeLine; decide), fun M nM => ?_⟩
    have s1234 := s123.trans s4
    have eM : M ≠ b := Ne.symm (ne_of_none (s1234 _ _ hb0) nM)
    have sM := same_upd (o := .lst [V.int (-1), .int 61, .non, .bl true, .bl false, .str "3", .ref p1, .ref p2, .ref p3, .int (10 ^ (20 : Int).toNat), .int (-(10 ^ (20 : Int).toNat)), .ref x]) nM
    have sAll := s1234.trans sM
    refine ⟨b, l, M, _, c, rfl, eM, upd_same, (by intro z; cases z), (by show 12 ≤ 1000; decide), B.same sAll, by omega, fun v H5 hv B5 b5 => q H5 v B5 (fun z o hz ho => b5 z o hz (sAll _ _ ho)) ?_⟩
    have T1 := sM _ _ (s4 _ _ (s3 _ _ (s2 _ _ t1)))
    have T2 := sM _ _ (s4 _ _ (s3 _ _ t2))
    have T3' := sM _ _ (s4 _ _ t3)
    have T4' := sM _ _ h4
    simp only [List.mem_cons, List.not_mem_nil, or_false] at hv
    rcases hv with rfl | rfl | rfl | rfl | rfl | rfl | rfl | rfl | rfl | rfl | rfl | rfl
    · exact ⟨rfl, fun _ _ => ⟨_, any_int _⟩⟩
    · exact ⟨rfl, fun _ _ => ⟨_, any_int _⟩⟩
    · exact ⟨rfl, fun _ _ => ⟨_, any_non⟩⟩
    · exact ⟨rfl, fun _ _ => ⟨_, any_bl _⟩⟩
    · exact ⟨rfl, fun _ _ => ⟨_, any_bl _⟩⟩
    · exact ⟨rfl, fun _ _ => ⟨_, any_str _⟩⟩
    · exact ⟨rfl, fun H' s => ⟨_, any_tup (s _ _ e1 (b5 _ _ e1 T1))⟩⟩
    · exact ⟨rfl, fun H' s => ⟨_, any_lst (s _ _ e2 (b5 _ _ e2 T2))⟩⟩
    · exact ⟨rfl, fun H' s => ⟨_, any_dT (s _ _ e3 (b5 _ _ e3 T3'))⟩⟩
    · exact ⟨by decide +kernel, fun _ _ => ⟨_, any_int _⟩⟩
    · exact ⟨by decide +kernel, fun _ _ => ⟨_, any_int _⟩⟩
    · exact ⟨rfl, fun H' s => ⟨_, ⟨G.ty _ _ _ _ (s _ _ e4 (b5 _ _ e4 T4')), MW.ni, MW.nb⟩⟩⟩
end
end T22
/-! A dict written with one pair, its key a tuple. -/
namespace Wk
open PySem PySem.Spec PyProof.Rows L2
/-- {k: v}, k a tuple -/
def tDispT (tk tv : TE) : TE := fun σ H Q => ∀ p, H p = none → tk σ (upd H p (.dT [])) fun x H1 => tv σ H1 fun y H2 => H2 p = some (.dT []) ∧ ∃ b k, x = .ref b ∧ H2 b = some (.tup (k.map kV)) ∧ Q (.ref p) (upd H2 p (.dT (putK [] k y)))
section
variable {X : Cx} {pos : Pos} {ke ve : Expr} {tk tv : TE}
theorem pe_dispT (hu : X.A.units + 1 < cLine) (hk : PE X ke tk) (hv : PE X ve tv) : PE X (.Dict [some ke] [ve] pos) (tDispT tk tv) := by
  refine ⟨fun pins s σ H Q I h => ?_⟩
  refine wpAny_Dict_any rfl rfl (by simp) (by show 1 ≤ 15; decide) ?_
  have I0 := I.laid (a := s.heap.objs.size) (o := .dT []) (t' := s.toks) (fun _ _ q => Heap.get?_push_of_some _ q) (Nat.le_refl _) (dt_empty s.heap I.big)
  have hq := h _ (I.hok.fresh (Nat.le_refl s.heap.objs.size))
  refine thn ((pps_cons (pos := pos) hk hv pps_nil).run pins _ σ _ (fun ps H2 => match ps with
    | [(x, y)] => H2 s.heap.objs.size = some (.dT []) ∧ ∃ b k, x = .ref b ∧ H2 b = some (.tup (k.map kV)) ∧ Q (.ref s.heap.objs.size) (upd H2 s.heap.objs.size (.dT (putK [] k y)))
    | _ => False) I0 hq) fun vs s1 ⟨ps, H2, I2, rel, q⟩ => ?_
  match ps, rel, q with
  | [(x, y)], rel, q =>
    cases rel with
    | @cons _ uv _ vs' hxy hr =>
      cases hr
      obtain ⟨u, r⟩ := uv
      obtain ⟨e, b, k, ex, eb, q⟩ := q
      subst ex
      cases (show u = Value.ref b from hxy.1)
      obtain ⟨z, hd, xs, kt, dd⟩ := dt_of I2.hok e
      have hz : xs.length ≤ sizeLine := by rw [← Paired.length kt]; exact z
      unfold storeAll
      rw [List.forIn_cons]
      refine wpAny_bind (wpAny_bind (wpAny_dictSet_heap (hsz := hz) (Nat.lt_of_succ_lt hu) (key_of I2.hok eb) dd fun h' dd' hs => wpAny_pure ?_))
      show wpAny _ _ (forIn ([] : List (Value × Value)) PUnit.unit _) _ _ _
      rw [List.forIn_nil]
      refine wpAny_pure ⟨V.ref s.heap.objs.size, _, ?_, show RelV (.ref _) (.ref _) from rfl, q⟩
      obtain ⟨o', es, ep, hq', h2, h3, h4, _, h5⟩ := dd'
      have hl : (putK ([] : List (List Key × V)) k y).length ≤ sizeLine := Nat.le_trans (length_putK _ _ _) (by show 1 ≤ sizeLine; decide)
      refine d_write I2 (by rw [e]; exact True.intro) hs ⟨o', hq'⟩ ⟨hl, hd, _, (kt.put k eb hxy.2).keeps fun c ys ec => ?_, o', es, ep, hq', h2, h3, h4, h5⟩
      rw [upd_ne (ne_of ec e (fun z => nomatch z))]
      exact ec
end
end Wk
/-! Ties that are no list and no tuple. -/
namespace T22
open PySem PySem.Spec PyProof.Rows L2 Wk
abbrev sBadTies : Stmt := top 33
theorem scBTs : FnScope ["_law_bag_here"] ["_law_bag_here"] (defScope sBadTies) := ⟨rfl, rfl, rfl, by decide +kernel, rfl, by decide +kernel, by decide +kernel⟩
/-- a web is no list and no tuple -/
structure NoLT (K : PySem.W.Frag) (C : Addr) : Prop where
  nl : PySem.W.kitOne K (.ref C) (.type "list") = some false
  nt : PySem.W.kitOne K (.ref C) (.type "tuple") = some false
theorem noLT {K : PySem.W.Frag} {t : Value} (h1 : PySem.W.kitOne K t (.type "list") = some false) (h2 : PySem.W.kitOne K t (.type "tuple") = some false) : PySem.W.kitAny K t [.type "list", .type "tuple"] = some false :=
  kitAny_cons (b := false) h1 (fun _ => kitAny_cons (b := false) h2 (fun _ => rfl) (fun z => by cases z)) (fun z => by cases z)
/-- neither a list nor a tuple, whatever becomes of the bag at b -/
def BadTies (K : PySem.W.Frag) (b : Addr) (H : Hp) (z : V) : Prop := ∀ H', But b H H' → ∃ tz, TyX K H' z tz ∧ PySem.W.kitAny K tz [.type "list", .type "tuple"] = some false
def spBadTies (K : PySem.W.Frag) : Sp := fun vs H Q _ => ∃ (b l : Addr) (c : Nat), vs = [.ref b] ∧ BagAt H b l c ∧ c ≤ 999000 ∧ ∀ H' y, BagAt H' b l (c + 1) → But b H H' → BadTies K b H' y → Q y H'
section
variable {P : Program} {w : World} {K : PySem.W.Frag} {mg : Str → Option Value} {base : Heap}
theorem ok_bad_ties {C f fo fi aE : Addr} {fd fdo di : FuncData} {k : Nat} (F : Fun K "_law_bad_ties" "_law_bad_ties" sBadTies f fd) (G : KindW K mg C) (NL : NoLT K C) (MW : MakW P w K mg base C k fi di aE) (GO : Has P w K mg base (k + 1) "_law_one" ["_law_bag_here", "_law_menu"] spOne fo fdo) :
    FnOk P w K mg base CX0 (k + 2) f fd ["_law_bag_here"] (spBadTies K) := by
  refine F.ok scBTs (fun vs H Q E h => ?_) (fun cdv A outer s H vs Q E hr h => ?_)
  · obtain ⟨b, l, c, rfl, _⟩ := h
    rfl
  · obtain ⟨b, l, c, rfl, B, hc, q⟩ := h
    have hu := hu_of hr
    obtain ⟨⟨xb, hb0⟩, _⟩ := B.in'
    refine ⟨_, pss_one (ps_ret (pe_call GO.F hr rfl GO.g GO.k GO.b .nil pass0 (pa_cons (pv 0) (pa_cons (pe_lst (pa_cons pe_non (pa_cons pe_int (pa_cons pe_int (pa_cons pe_bl (pa_cons pe_str (pa_cons pe_str (pa_cons pe_dnewT
      (pa_cons (pe_dispT hu (pe_tup (pa_cons pe_int (pa_cons pe_int pa_nil))) pe_int) (pa_cons (pe_make MW.M MW.F hr rfl MW.g MW.b1 (vE aE) pass0 (pa_cons pe_int pa_nil)) pa_nil)))))))))) pa_nil)))), ?_⟩
    refine ⟨_, rfl, fun p1 n1 => ?_⟩
    have s1 := same_upd (o := .dT []) n1
    have t1 : (upd H p1 (.dT [])) p1 = some (.dT []) := upd_same
    have e1 : p1 ≠ b := Ne.symm (ne_of_none hb0 n1)
    generalize upd H p1 (.dT []) = H1 at s1 t1 ⊢
    refine fun p2 n2 => ⟨(by show 2 ≤ sizeLine; decide), fun p3 n3 => ?_⟩
    have s2 := same_upd (o := .dT []) n2
    have s3 := same_upd (o := .tup [V.int 0, .int 1]) n3
    have t2 : (upd (upd H1 p2 (.dT [])) p3 (.tup [V.int 0, .int 1])) p2 = some (.dT []) := s3 _ _ upd_same
    have t3 : (upd (upd H1 p2 (.dT [])) p3 (.tup [V.int 0, .int 1])) p3 = some (.tup (([.inl 0, .inl 1] : List Key).map kV)) := upd_same
    have e2 : p2 ≠ b := Ne.symm (ne_of_none (s1 _ _ hb0) n2)
    refine ⟨t2, p3, [.inl 0, .inl 1], rfl, t3, ?_⟩
    have s4 : Same H1 (upd (upd (upd H1 p2 (.dT [])) p3 (.tup [V.int 0, .int 1])) p2 (.dT (putK [] [.inl 0, .inl 1] (.int 2)))) := fun z o hz => by
      rw [upd_ne (ne_of_none hz n2)]
      exact s3 _ _ (s2 _ _ hz)
    have t4 : (upd (upd (upd H1 p2 (.dT [])) p3 (.tup [V.int 0, .int 1])) p2 (.dT (putK [] [.inl 0, .inl 1] (.int 2)))) p2 = some (.dT (putK [] [.inl 0, .inl 1] (.int 2))) := upd_same
    generalize upd (upd (upd H1 p2 (.dT [])) p3 (.tup [V.int 0, .int 1])) p2 (.dT (putK [] [.inl 0, .inl 1] (.int 2))) = H3 at s4 t4 ⊢
    refine fun x dx hx hdx hne => init_of (ps := []) (xs := []) (n := 3) hx hdx hne (by decide) (.inr (MW.e _)) True.intro (by decide) (fun p hp => by cases hp) (fun u v => by show (0 : Int) ≤ _; decide) (fun H4 T4 s5 _ w4 => ?_)
    have s14 := s1.trans s4
    have e4 : x ≠ b := Ne.symm (ne_of_none (s14 _ _ hb0) hx)
    obtain ⟨dx4, t5, ys4, d4, g4, h4, _⟩ := w4.ex
    refine ⟨(by show 9 ≤ sizeLine; decide), fun M nM => ?_⟩
    have s15 := s14.trans s5
    have eM : M ≠ b := Ne.symm (ne_of_none (s15 _ _ hb0) nM)
    have sM := same_upd (o := .lst [V.non, .int 0, .int 3, .bl true, .str "", .str "ab", .ref p1, .ref p2, .ref x]) nM
    have sAll := s15.trans sM
    refine ⟨b, l, M, _, c, rfl, eM, upd_same, (by intro z; cases z), (by show 9 ≤ 1000; decide), B.same sAll, by omega, fun v H5 hv B5 b5 => q H5 v B5 (fun z o hz ho => b5 z o hz (sAll _ _ ho)) ?_⟩
    have T1 := sM _ _ (s5 _ _ (s4 _ _ t1))
    have T2 := sM _ _ (s5 _ _ t4)
    have T4' := sM _ _ h4
    have kt : ∀ t : String, PySem.W.kitOne K (.type t) (.type "list") = some false → PySem.W.kitOne K (.type t) (.type "tuple") = some false → PySem.W.kitAny K (.type t) [.type "list", .type "tuple"] = some false := fun t h1 h2 => noLT h1 h2
    simp only [List.mem_cons, List.not_mem_nil, or_false] at hv
    rcases hv with rfl | rfl | rfl | rfl | rfl | rfl | rfl | rfl | rfl
    · exact fun _ _ => ⟨_, .base .non, noLT (kit_ty (r := false) (by decide +kernel)) (kit_ty (r := false) (by decide +kernel))⟩
    · exact fun _ _ => ⟨_, .base (.int _), noLT (kit_ty (r := false) (by decide +kernel)) (kit_ty (r := false) (by decide +kernel))⟩
    · exact fun _ _ => ⟨_, .base (.int _), noLT (kit_ty (r := false) (by decide +kernel)) (kit_ty (r := false) (by decide +kernel))⟩
    · exact fun _ _ => ⟨_, .base (.bl _), noLT (kit_ty (r := false) (by decide +kernel)) (kit_ty (r := false) (by decide +kernel))⟩
    · exact fun _ _ => ⟨_, .base (.str _), noLT (kit_ty (r := false) (by decide +kernel)) (kit_ty (r := false) (by decide +kernel))⟩
    · exact fun _ _ => ⟨_, .base (.str _), noLT (kit_ty (r := false) (by decide +kernel)) (kit_ty (r := false) (by decide +kernel))⟩
    · exact fun H' s => ⟨_, .base (.dT (s _ _ e1 (b5 _ _ e1 T1))), noLT (kit_ty (r := false) (by decide +kernel)) (kit_ty (r := false) (by decide +kernel))⟩
    · exact fun H' s => ⟨_, .base (.dT (s _ _ e2 (b5 _ _ e2 T2))), noLT (kit_ty (r := false) (by decide +kernel)) (kit_ty (r := false) (by decide +kernel))⟩
    · exact fun H' s => ⟨_, G.ty _ _ _ _ (s _ _ e4 (b5 _ _ e4 T4')), noLT NL.nl NL.nt⟩
end
end T22
/-! repr of a tuple of data. -/
namespace Wk
open PySem PySem.Spec PyProof.Rows L2
/-- repr(t), t a tuple of such data -/
def rReprT (K : PySem.W.Frag) : List V → Hp → VK → Prop := fun xs H Q => ∃ (a : Addr) (vs : List V) (ds : List PyData), xs = [.ref a] ∧ SqT K H a vs ∧ RqAll K H vs ds ∧ PyData.showableAll ds = true ∧ PyData.depthAll ds ≤ 40 ∧
  (tupleText (PyData.shownAll ds)).length ≤ sizeLine ∧ Q (.str (tupleText (PyData.shownAll ds))) H
theorem call_reprT {X : Cx} {K : PySem.W.Frag} (hK : X.K = K) (hg : Gd X.A) (hu : X.A.units + 64 < cLine) : CallR X (.builtin "repr") (rReprT K) := by
  subst hK
  intro pins s σ H xs us Q I r h
  obtain ⟨a, vs, ds, rfl, ha, hall, hs, hd, hz, q⟩ := h
  obtain ⟨u, rfl, e⟩ := vals1 r
  cases (show u = Value.ref a from e)
  obtain ⟨its, rv, ⟨o, e1, e2, n, e3⟩, _⟩ := I.tuple ha
  obtain ⟨⟨as, ra⟩, bs, hb, hk⟩ := RqAll.k I ds vs its hall rv hs (fun t ht => Nat.le_trans (tupleText_mem_le ht) hz)
  have hr : Reads s.heap (.ref a) (.tuple ds) as := Reads.tuple (vs := its.toArray) e1 e2 e3 (by simpa using ra)
  have hna : a ∉ bs := not_mem_of_deeper hr (by simp only [PyData.depth]; omega) hb
  refine call_repr_slot (by omega) ⟨_, e1, e2⟩ F.slot_tuple_repr ?_
  refine call_tuple_reprK e1 e2 e3 hna (by simpa using hk) hg (fun b _ => Clear.nil b) (by show X.A.units + 1 + _ < _; omega) (fun _ _ z => z) (fun h' u tk kp => ?_) hz
  exact ⟨_, _, rfl, .str _, H, I.kept (t' := tk) kp, ⟨_, rfl⟩, q⟩
end Wk
/-! The law's items, in the three states that it knows. -/
namespace T22
open PySem PySem.Spec PyProof.Rows L2 Wk
section
variable {K : PySem.W.Frag} {H H' : Hp} {b : Addr} {n : Int}
/-- an element of the items: a tie or none, whatever becomes of the bag at b -/
def El (K : PySem.W.Frag) (b : Addr) (H : Hp) (n : Int) (x : V) (ok : Bool) : Prop := ∃ d, (∀ H', But b H H' → TieIs K H' x n ok ∧ Rq K H' x d) ∧ d.showable = true ∧ d.depth ≤ 3 ∧ d.shown.length ≤ 400
theorem El.but {x : V} {ok : Bool} (h : El K b H n x ok) (s : But b H H') : El K b H' n x ok := let ⟨d, h1, h2⟩ := h; ⟨d, fun H2 t => h1 H2 (s.trans t), h2⟩
def Els (K : PySem.W.Frag) (b : Addr) (H : Hp) (n : Int) : List V → List Bool → Prop
  | [], [] => True
  | x :: xs, o :: bs => El K b H n x o ∧ Els K b H n xs bs
  | _, _ => False
theorem Els.but (s : But b H H') : ∀ {xs : List V} {bs : List Bool}, Els K b H n xs bs → Els K b H' n xs bs
  | [], [], _ => True.intro
  | _ :: _, _ :: _, h => ⟨h.1.but s, Els.but s h.2⟩
  | [], _ :: _, h => h.elim
  | _ :: _, [], h => h.elim
theorem Els.length : ∀ {xs : List V} {bs : List Bool}, Els K b H n xs bs → xs.length = bs.length
  | [], [], _ => rfl
  | _ :: _, _ :: _, h => by rw [List.length_cons, List.length_cons, Els.length h.2]
  | [], _ :: _, h => h.elim
  | _ :: _, [], h => h.elim
theorem Els.append : ∀ {xs ys : List V} {bs cs : List Bool}, Els K b H n xs bs → Els K b H n ys cs → Els K b H n (xs ++ ys) (bs ++ cs)
  | [], _, [], _, _, h => h
  | _ :: _, _, _ :: _, _, h, t => ⟨h.1, Els.append h.2 t⟩
  | [], _, _ :: _, _, h, _ => h.elim
  | _ :: _, _, [], _, h, _ => h.elim
theorem Els.take : ∀ {xs : List V} {bs : List Bool} (i : Nat), Els K b H n xs bs → Els K b H n (xs.take i) (bs.take i)
  | [], [], i, _ => by rw [List.take_nil, List.take_nil]; exact True.intro
  | _ :: _, _ :: _, 0, _ => True.intro
  | _ :: _, _ :: _, i + 1, h => ⟨h.1, Els.take i h.2⟩
  | [], _ :: _, _, h => h.elim
  | _ :: _, [], _, h => h.elim
theorem Els.drop : ∀ {xs : List V} {bs : List Bool} (i : Nat), Els K b H n xs bs → Els K b H n (xs.drop i) (bs.drop i)
  | [], [], i, _ => by rw [List.drop_nil, List.drop_nil]; exact True.intro
  | _ :: _, _ :: _, 0, h => h
  | _ :: _, _ :: _, i + 1, h => Els.drop i h.2
  | [], _ :: _, _, h => h.elim
  | _ :: _, [], _, h => h.elim
theorem Els.ties : ∀ {xs : List V} {bs : List Bool}, Els K b H n xs bs → TieAll K H n xs bs
  | [], [], _ => True.intro
  | _ :: _, _ :: _, h => ⟨let ⟨_, h1, _⟩ := h.1; (h1 H (But.refl b H)).1, Els.ties h.2⟩
  | [], _ :: _, h => h.elim
  | _ :: _, [], h => h.elim
theorem Els.rq : ∀ {xs : List V} {bs : List Bool}, Els K b H n xs bs → ∃ ds, (∀ H', But b H H' → RqAll K H' xs ds) ∧ PyData.showableAll ds = true ∧ PyData.depthAll ds ≤ 3 ∧ cost ds ≤ 402 * xs.length
  | [], [], _ => ⟨[], fun _ _ => .nil, rfl, by simp [PyData.depthAll], Nat.le_refl _⟩
  | x :: xs, _ :: _, h => by
    obtain ⟨d, h1, h2, h3, h4⟩ := h.1
    obtain ⟨ds, g1, g2, g3, g4⟩ := Els.rq h.2
    refine ⟨d :: ds, fun H' s => .cons (h1 H' s).2 (g1 H' s), by rw [PyData.showableAll, h2, g2]; rfl, by rw [PyData.depthAll]; omega, ?_⟩
    show d.shown.length + 2 + cost ds ≤ 402 * (xs.length + 1)
    omega
  | [], _ :: _, h => h.elim
  | _ :: _, [], h => h.elim
theorem el_bad {x : V} (h : Bad K b H x n) : El K b H n x false := h.ex
theorem el_tr {x : V} {p : T3} {xb : List V} (hb : H b = some (.lst xb)) (h : Tr K H x p.1 p.2.1 p.2.2) (hn : n ≤ 60) (hv : tieB p.1 p.2.1 p.2.2 n = true) : El K b H n x true := by
  have v := tieB_iff.mp hv
  obtain ⟨d1, d2, d3'⟩ := d3_ok (p := p) (by show _ < _; omega) (by show _ < _; omega) (by show _ < _; omega)
  refine ⟨d3 p, fun H' s => ?_, d2, by omega, by omega⟩
  have hT : Trs K H' [x] [p] := Trs.but hb s (show Trs K H [x] [p] from ⟨h, True.intro⟩)
  have t := tr_is (n := n) hT.1
  rw [hv] at t
  obtain ⟨a, e, hS⟩ := hT.1
  subst e
  exact ⟨t, .tup hS (.cons (.int _) (.cons (.int _) (.cons (.int _) .nil)))⟩
theorem els_trs {xb : List V} (hb : H b = some (.lst xb)) (hn : n ≤ 60) : ∀ {xs : List V} {ps : List T3}, Trs K H xs ps → (∀ p ∈ ps, tieB p.1 p.2.1 p.2.2 n = true) → Els K b H n xs (ps.map fun _ => true)
  | [], [], _, _ => True.intro
  | _ :: _, p :: _, h, hv => ⟨el_tr hb h.1 hn (hv p List.mem_cons_self), els_trs hb hn h.2 fun q hq => hv q (List.mem_cons_of_mem _ hq)⟩
  | [], _ :: _, h, _ => h.elim
  | _ :: _, [], h, _ => h.elim
theorem trs_drop : ∀ {xs : List V} {ps : List T3} (i : Nat), Trs K H xs ps → Trs K H (xs.drop i) (ps.drop i)
  | [], [], i, _ => by rw [List.drop_nil, List.drop_nil]; exact True.intro
  | _ :: _, _ :: _, 0, h => h
  | _ :: _, _ :: _, i + 1, h => trs_drop i h.2
  | [], _ :: _, _, h => h.elim
  | _ :: _, [], _, h => h.elim
theorem cut_take {xs : List V} {k : Nat} : cutV xs none (some (k : Int)) = xs.take k := by
  unfold cutV
  rw [HT.sIx_none, HT.sIx_nat, List.drop_zero, Nat.sub_zero]
  by_cases hk : k ≤ xs.length
  · rw [Nat.min_eq_left hk]
  · rw [Nat.min_eq_right (by omega), List.take_of_length_le (Nat.le_refl _), List.take_of_length_le (by omega)]
theorem cut_drop {xs : List V} {k : Nat} : cutV xs (some (k : Int)) none = xs.drop k := by
  unfold cutV
  rw [HT.sIx_none, HT.sIx_nat]
  by_cases hk : k ≤ xs.length
  · rw [Nat.min_eq_left hk, List.take_of_length_le (by rw [List.length_drop]; omega)]
  · rw [Nat.min_eq_right (by omega), List.drop_of_length_le (Nat.le_refl _), List.drop_of_length_le (by omega), List.take_nil]
/-- items that are ties all -/
structure Good (K : PySem.W.Frag) (b : Addr) (H : Hp) (n : Nat) (I : Addr) (xs : List V) (due : Str) (di : Int) : Prop where
  at' : H I = some (.lst xs)
  ne : I ≠ b
  len : xs.length ≤ 9
  ex : ∃ ps, Trs K H xs ps ∧ (∀ p ∈ ps, tieB p.1 p.2.1 p.2.2 (n : Int) = true) ∧
    ((due = "made" ∧ di = n ∧ ∀ u v, amt (ps.map norm) u v ≤ 1000000000) ∨ (due = "many" ∧ di = 1000000000 ∧ ∃ u v, 1000000000 < amt (ps.map norm) u v))
/-- items, whatever they are, and what the constructor is due to tell of them -/
structure Its (K : PySem.W.Frag) (b : Addr) (H : Hp) (n : Nat) (I : Addr) (xs : List V) (due : Str) (di : Int) : Prop where
  at' : H I = some (.lst xs)
  ne : I ≠ b
  len : xs.length ≤ 11
  els : ∃ bs, Els K b H (n : Int) xs bs
  sm : (PyData.str due).shown.length ≤ 100 ∧ Small di
  out : (∃ ps, Trs K H xs ps ∧ (∀ p ∈ ps, tieB p.1 p.2.1 p.2.2 (n : Int) = true) ∧
    ((due = "made" ∧ di = n ∧ ∀ u v, amt (ps.map norm) u v ≤ 1000000000) ∨ (due = "many" ∧ di = 1000000000 ∧ ∃ u v, 1000000000 < amt (ps.map norm) u v))) ∨
    (due = "tie" ∧ ∃ (i : Nat) (bs : List Bool), di = (i : Int) ∧ Els K b H (n : Int) xs bs ∧ bs[i]? = some false ∧ ∀ j, j < i → bs[j]? = some true)
theorem Its.but {n : Nat} {I : Addr} {xs : List V} {due : Str} {di : Int} {xb : List V} (h : Its K b H n I xs due di) (hb : H b = some (.lst xb)) (s : But b H H') : Its K b H' n I xs due di := by
  obtain ⟨bs, hE⟩ := h.els
  refine ⟨s _ _ h.ne h.at', h.ne, h.len, ⟨bs, hE.but s⟩, h.sm, ?_⟩
  rcases h.out with ⟨ps, hT, hv, q⟩ | ⟨e, i, bs, ei, hE, q⟩
  · exact .inl ⟨ps, Trs.but hb s hT, hv, q⟩
  · exact .inr ⟨e, i, bs, ei, hE.but s, q⟩
theorem Its.hear {n : Nat} {I a : Addr} {xs : List V} {due : Str} {di : Int} (h : Its K b H n I xs due di) (hn : n ≤ 60) (hS : SqS K H a xs) {Q : VK} {E : XK} (q : tells due di Q H) : spHeard K [.int (n : Int), .ref a] H Q E := by
  refine ⟨_, _, _, rfl, any_int _, .inr ⟨n, rfl, hn, .inr ⟨a, xs, rfl, hS, ?_⟩⟩⟩
  have hl := h.len
  rcases h.out with ⟨ps, hT, hv, q2⟩ | ⟨e, i, bs, ei, hE, q1, q2⟩
  · refine .inr ⟨ps, hT, by have := hT.length; omega, hv, ?_⟩
    rcases q2 with ⟨e1, e2, ham⟩ | ⟨e1, e2, hb⟩
    · subst e1 e2; exact .inl ⟨ham, q⟩
    · subst e1 e2; exact .inr ⟨hb, q⟩
  · subst e ei
    exact .inl ⟨bs, i, hE.ties, q1, q2, q⟩
theorem Its.text {n : Nat} {I : Addr} {xs : List V} {due : Str} {di : Int} (h : Its K b H n I xs due di) : ∃ ds, (∀ H', But b H H' → RqAll K H' xs ds) ∧ PyData.showableAll ds = true ∧ PyData.depthAll ds ≤ 40 ∧ (listText (PyData.shownAll ds)).length ≤ sizeLine := by
  obtain ⟨bs, hE⟩ := h.els
  obtain ⟨ds, h1, h2, h3, h4⟩ := hE.rq
  have hl := h.len
  refine ⟨ds, h1, h2, by omega, Nat.le_trans (listText_le ds) ?_⟩
  rw [sizeLine_eq]
  omega
theorem Good.its {n : Nat} {I : Addr} {xs : List V} {due : Str} {di : Int} {xb : List V} (h : Good K b H n I xs due di) (hb : H b = some (.lst xb)) (hn : n ≤ 60) : Its K b H n I xs due di := by
  obtain ⟨ps, hT, hv, q⟩ := h.ex
  refine ⟨h.at', h.ne, by have := h.len; omega, ⟨_, els_trs hb (by omega) hT hv⟩, ?_, .inl ⟨ps, hT, hv, q⟩⟩
  rcases q with ⟨e1, e2, _⟩ | ⟨e1, e2, _⟩
  · subst e1 e2; exact ⟨by decide +kernel, by show _ < _; omega⟩
  · subst e1 e2; exact ⟨by decide +kernel, by show _ < _; decide⟩
end
end T22
/-! repr(bool); t[::-1] of a tuple. -/
namespace Wk
open PySem PySem.Spec PyProof.Rows L2 HT
theorem call_reprBl {X : Cx} : CallR X (.builtin "repr") (fun xs H Q => ∃ b : Bool, xs = [.bl b] ∧ Q (.str (if b then "True" else "False")) H) := by
  intro pins s σ H xs us Q I r h
  obtain ⟨b, rfl, q⟩ := h
  obtain ⟨u, rfl, e⟩ := vals1 r
  cases (show u = Value.bool b from e)
  exact PySem.P.repr_of_bool ⟨.str _, H, I.tok _, ⟨_, rfl⟩, q⟩
theorem rev_pick (xs : Array Value) : ((List.range xs.size).filterMap fun (k : Nat) => xs[((xs.size : Int) - 1 + (k : Int) * (-1)).toNat]?) = xs.toList.reverse := by
  have h := PySem.W.krv_all xs
  have e : ((List.range xs.size).map fun k => xs.size - 1 - k).filterMap (xs[·]?) = xs.toList.reverse := by
    rw [PySem.W.krv_range, List.filterMap_reverse, h]
  rw [List.filterMap_map] at e
  rw [← e]
  have hh : ∀ l : List Nat, (∀ k ∈ l, k < xs.size) → l.filterMap (fun (k : Nat) => xs[((xs.size : Int) - 1 + (k : Int) * (-1)).toNat]?) = l.filterMap ((xs[·]?) ∘ fun k => xs.size - 1 - k) := by
    intro l
    induction l with
    | nil => intro _; rfl
    | cons k l ih =>
      intro hl
      have hk := hl k List.mem_cons_self
      rw [List.filterMap_cons, List.filterMap_cons, ih fun j hj => hl j (List.mem_cons_of_mem _ hj)]
      have : ((xs.size : Int) - 1 + (k : Int) * (-1)).toNat = xs.size - 1 - k := by omega
      have e2 : xs[((xs.size : Int) - 1 + (k : Int) * (-1)).toNat]? = ((xs[·]?) ∘ fun k => xs.size - 1 - k) k := by rw [this]; rfl
      rw [e2]
  exact hh _ fun k hk => List.mem_range.mp hk
section
variable {prog : Program} {w : World} {A : Around} {E : Value → Shared → Prop} {s : Shared}
theorem applied_rev {sl : Addr} {vs : Value} {n : Nat} {Q : Int × Int × Nat → Shared → Prop} (hs : s.heap.IsSliceOf sl .none .none vs) (ps : IsPart vs (some (-1))) (h : Q ((n : Int) - 1, -1, n) s) :
    wpAny (model prog w) A (Builtin.Slice.sliceApplied (.ref sl) (pure (n : Int))) Q E s := by
  obtain ⟨os, hos, hcs, hds⟩ := id hs
  unfold Builtin.Slice.sliceApplied Builtin.Slice.sliceFields
  refine wpAny_bind (wpAny_bind (wpAny_field hos hds (x := .none) rfl (wpAny_bind (wpAny_field hos hds (x := .none) rfl (wpAny_bind (wpAny_field hos hds (x := vs) rfl (wpAny_pure ?_)))))))
  refine wpAny_bind (slicePart_ ps ?_)
  show wpAny _ _ (if ((-1 : Int) == 0) = true then _ else _) _ _ s
  rw [if_neg (by decide)]
  refine wpAny_bind (slicePart_ .none (wpAny_bind (slicePart_ .none (wpAny_bind (wpAny_pure ?_)))))
  have ad : Builtin.Slice.sliceAdjust none none (-1) (n : Int) = ((n : Int) - 1, -1) := by
    unfold Builtin.Slice.sliceAdjust
    first | rfl | simp
  have pl : Builtin.Slice.slicePlaces ((n : Int) - 1) (-1) (-1) = n := by
    unfold Builtin.Slice.slicePlaces
    have h1 : ¬ ((-1 : Int) > 0) := by decide
    simp only [h1, if_false]
    by_cases h0 : n = 0
    · subst h0; decide
    · rw [show (- -1 : Int) = 1 by decide]
      simp only [Int.ediv_one]
      split <;> omega
  show wpAny _ _ (match Builtin.Slice.sliceAdjust none none (-1) (n : Int) with | (a, b) => pure (a, (-1 : Int), Builtin.Slice.slicePlaces a b (-1))) _ _ s
  rw [ad]
  show wpAny _ _ (pure ((n : Int) - 1, (-1 : Int), Builtin.Slice.slicePlaces ((n : Int) - 1) (-1) (-1))) _ _ s
  rw [pl]
  exact wpAny_pure h
theorem getItem_rev {t sl : Addr} {items : Array Value} {vs : Value} {Q : Value → Shared → Prop} (ht : IsTup s.heap t items) (hs : s.heap.IsSliceOf sl .none .none vs) (ps : IsPart vs (some (-1)))
    (h : Q (.ref s.heap.objs.size) { s with heap := s.heap.push { cls := .type "tuple", data := .seq items.toList.reverse.toArray } }) (hz : items.size ≤ sizeLine) : wpAny (model prog w) A (getItem (.ref t) (.ref sl)) Q E s := by
  have hk : sizeOk (.seq items.toList.reverse.toArray) := by
    show items.toList.reverse.toArray.size ≤ sizeLine
    rw [List.size_toArray, List.length_reverse, Array.length_toList]; exact hz
  obtain ⟨os, hos, hcs, hds⟩ := id hs
  have hTs : s.TypeIs (.ref sl) "slice" := ⟨os, hos, hcs⟩
  unfold getItem
  try with_reducible refine wpAny_holding ?_
  first | refine wpAny_bind (wpAny_pure ?_) | skip
  refine wpAny_bind (wpAny_sequenceKey ht.typeIs (by decide) ?_)
  refine wpAny_bind (wpAny_callSpecial?_slot (name := Str.ofString "__getitem__") ht.typeIs PyProof.Rows.slot_tuple_getitem (wpAny_call_entry PyProof.Rows.slot_tuple_getitem ht.typeIs entry_tuple_getitem ?_ (args_tuple_getitem _ _)))
  show wpAny _ _ (Builtin.Tuple.tupleItemsOf (.ref t) >>= _) _ _ s
  refine wpAny_bind (tupleItemsOf_ ht ?_)
  refine wpAny_bind (wpAny_typeOf hTs ?_)
  rw [if_pos (by decide)]
  refine wpAny_bind (applied_rev hs ps ?_)
  have no : ¬ ((((items.size : Int) - 1) == 0 && (-1 : Int) == 1 && items.size == items.size) = true) := by simp
  show wpAny _ _ (if (((items.size : Int) - 1) == 0 && (-1 : Int) == 1 && items.size == items.size) = true then _ else _) _ _ s
  rw [if_neg no, rev_pick]
  first
    | exact wpAny_bind (m := Builtin.Tuple.tupleExact _) (wpAny_newObj_type (wpAny_pure ⟨_, rfl, wpAny_pure h⟩) hk)
    | exact wpAny_bind (m := Builtin.Tuple.tupleExact _) (wpAny_newObj_type (wpAny_bind (wpAny_pure (wpAny_pure ⟨_, rfl, wpAny_pure h⟩))) hk)
    | exact wpAny_bind (wpAny_bind (m := Builtin.Tuple.tupleExact _) (wpAny_newObj_type (wpAny_pure (wpAny_pure ⟨_, rfl, wpAny_pure h⟩)) hk))
    | exact wpAny_bind (wpAny_bind (m := Builtin.Tuple.tupleExact _) (wpAny_newObj_type (wpAny_pure ⟨_, rfl, wpAny_pure h⟩) hk))
end
/-- t[::-1] -/
def tRevT (K : PySem.W.Frag) (te : TE) : TE := fun σ H Q => te σ H fun x H1 => ∃ a xs, x = .ref a ∧ SqT K H1 a xs ∧ ∀ p, H1 p = none → Q (.ref p) (upd H1 p (.tup xs.reverse))
theorem pe_revT {X : Cx} {e : Expr} {te : TE} {k : Nat} {p1 p2 p3 pos : Pos} (he : PE X e te) : PE X (.Subscript e (.Slice none none (some (.UnaryOp .USub (.Constant (.int 1) k p1) p2)) p3) pos) (tRevT X.K te) := by
  refine ⟨fun pins s σ H Q I h => Subscript_ (thn (he.run pins s σ H _ I h) fun v s1 ⟨x, H1, I1, r1, q1⟩ => ?_)⟩
  obtain ⟨a, xs, ex, hx, q⟩ := q1
  subst ex
  cases r1
  have st : PO X (some (.UnaryOp .USub (.Constant (.int 1) k p1) p2)) (tPart (tUn (rU fun i => .int (-i)) (tC (.int 1)))) := po_some (pe_un un_neg pe_int)
  refine wpAny_Slice (thn (po_none.run pins s1 σ H1 (fun o H2 => o = none ∧ H2 = H1) I1 ⟨rfl, rfl⟩) fun vl s2 ⟨l, H2, I2, pl, el, e2⟩ => ?_)
  subst el e2
  cases pl
  refine thn (po_none.run pins s2 σ H2 (fun o H3 => o = none ∧ H3 = H2) I2 ⟨rfl, rfl⟩) fun vu s3 ⟨u, H3, I3, pu, eu, e3⟩ => ?_
  subst eu e3
  cases pu
  refine thn (st.run pins s3 σ H3 (fun o H4 => o = some (-1) ∧ H4 = H3) I3 ⟨1, rfl, -1, rfl, rfl, rfl⟩) fun vs s4 ⟨o, H4, I4, ps, eo, e4⟩ => ?_
  subst eo e4
  have I5 : Inv X pins σ H4 { s4 with heap := s4.heap.push { cls := .type "slice", data := .fields #[.none, .none, vs] } } := I4.kept (t' := s4.toks) fun b ob q => Heap.get?_push_of_some _ q
  obtain ⟨its, r, ht, hz⟩ := I5.tuple hx
  have hlen := r.length
  refine tail_any (ops := [.ref a, .ref s4.heap.objs.size]) ht.typeIs (PyProof.Rows.slot_tuple_getitem.lookup) ?_ (by with_unfolding_all rfl)
  refine getItem_rev ht (Heap.IsSliceOf.new _ .none .none vs) ps ?_ (by rw [List.size_toArray]; omega)
  refine ⟨.ref _, _, I5.laid (t' := s4.toks) (o := .tup xs.reverse) (fun b ob q => Heap.get?_push_of_some _ q) (Nat.le_refl _) ?_, rfl, q _ (I5.hok.fresh (Nat.le_refl _))⟩
  refine ⟨by rw [List.length_reverse]; exact hz, its.reverse, r.reverse, _, Heap.get?_push_size _ rfl, rfl, 0, ?_⟩
  simp
end Wk
/-! The law. -/
namespace T22
open PySem PySem.Spec PyProof.Rows L2 Wk
abbrev sLaw : Stmt := top 34
def spLaw (K : PySem.W.Frag) : Sp := fun vs H Q _ => ∃ (a : Addr) (ns : List Int), vs = [.ref a] ∧ SqL K H a (ns.map V.int) ∧ ns.length ≤ 63 ∧ ∀ H', Q (.bl true) H'
theorem scLa : FnScope ["_law_script", "_law_bag_here", "_law_trip", "_law_size", "_law_mode", "_law_items_here", "_law_due", "_law_at", "_law_shown", "_law_held", "_law_wrong"] ["_law_script"] (defScope sLaw) := ⟨rfl, rfl, rfl, by decide +kernel, rfl, by decide +kernel, by decide +kernel⟩
theorem seq_same {t u : TS} {D : Ends} {σ : L2.St} {H : Hp} {r : VK} {bk ct : L2.St → Hp → Prop} (R : L2.St → Hp → Prop) (hR : ∀ σ' H', R σ' H' → u D σ' H') (h : ∀ D' : Ends, (∀ σ' H', R σ' H' → D'.nx σ' H') → t D' σ H) : Ends.nx { nx := tSeq t u D, rt := r, bk := bk, ct := ct } σ H := h _ hR
theorem txtA_ok {x : Str} {a : Int} (hx : (PyData.str x).shown.length ≤ 100) (ha : Small a) : PyData.showableAll [.str x, .int a] = true ∧ PyData.depthAll [.str x, .int a] ≤ 40 ∧ (tupleText (PyData.shownAll [.str x, .int a])).length ≤ sizeLine := by
  obtain ⟨b1, b2⟩ := int_show ha
  refine ⟨by rw [PyData.showableAll, PyData.showableAll, PyData.showableAll, show (PyData.str x).showable = true by simp [PyData.showable], b2]; rfl, by simp [PyData.depthAll, PyData.depth], ?_⟩
  refine Nat.le_trans (tupleText_le _) ?_
  show 3 + ((PyData.str x).shown.length + 2 + ((PyData.int a).shown.length + 2 + 0)) ≤ sizeLine
  rw [sizeLine_eq]
  omega
theorem ins_lt {bs : List Bool} {k j : Nat} {c : Bool} (hk : k ≤ bs.length) (hj : j < k) : (bs.take k ++ [c] ++ bs.drop k)[j]? = bs[j]? := by
  rw [List.append_assoc, List.getElem?_append_left (by rw [List.length_take]; omega), List.getElem?_take_of_lt hj]
theorem ins_at {bs : List Bool} {k : Nat} {c : Bool} (hk : k ≤ bs.length) : (bs.take k ++ [c] ++ bs.drop k)[k]? = some c := by
  rw [List.append_assoc, List.getElem?_append_right (by rw [List.length_take]; omega), List.length_take, Nat.min_eq_left hk, Nat.sub_self]
  rfl
theorem seq_same2 {t u : TS} {D : Ends} {σ : L2.St} {H : Hp} (R : L2.St → Hp → Prop) (hR : ∀ σ' H', R σ' H' → u D σ' H') (h : ∀ D' : Ends, (∀ σ' H', R σ' H' → D'.nx σ' H') → t D' σ H) : tSeq t u D σ H := h _ hR
/-- what the law wants of its names -/
structure Nms (mg : Str → Option Value) : Prop where
  mt : mg "tuple" = none
  mr : mg "repr" = none
  mra : mg "range" = none
  ml : mg "len" = none
section
variable {P : Program} {w : World} {K : PySem.W.Frag} {mg : Str → Option Value} {base : Heap}
theorem ok_law {f fB ft fI fH fBI fBS fBT : Addr} {fd fdB fdt fdI fdH fdBI fdBS fdBT : FuncData} {k : Nat} (F : Fun K "law" "law" sLaw f fd) (N : Nms mg)
    (GB : Has P w K mg base (k + 1) "_law_bag" ["_law_script"] (spBag K) fB fdB) (GT : Has P w K mg base (k + 1) "_law_take" ["_law_bag_here", "_law_many"] spTake ft fdt)
    (GI : Has P w K mg base (k + 1) "_law_items" ["_law_bag_here", "_law_size", "_law_many"] (spItems K) fI fdI) (GH : Has P w K mg base (k + 1) "_law_heard" ["_law_size", "_law_ties"] (spHeard K) fH fdH)
    (GBI : Has P w K mg base (k + 1) "_law_bad_item" ["_law_bag_here", "_law_size"] (spBadItem K) fBI fdBI) (GBS : Has P w K mg base (k + 1) "_law_bad_size" ["_law_bag_here"] (spBadSize K) fBS fdBS) (GBT : Has P w K mg base (k + 1) "_law_bad_ties" ["_law_bag_here"] (spBadTies K) fBT fdBT) :
    FnC P w K mg base CX0 (k + 2) f fd ["_law_script"] (spLaw K) := by
  refine okC F scLa (fun vs H Q E h => ?_) (fun cdv A outer s H vs Q E hr hgd h => ?_)
  · obtain ⟨a, ns, rfl, _⟩ := h
    rfl
  · obtain ⟨a, ns, rfl, hS, hlen, q⟩ := h
    have hu := hu_of hr
    refine ⟨_, pss_cons (ps_set (i := 1) scLa.nd rfl (Or.inl rfl) (pe_call GB.F hr rfl GB.g GB.k GB.b .nil pass0 (pa_cons (pv 0) pa_nil)))
      (pss_cons (ps_for PassesOwn.never rfl (pi_range1 (by rfl) N.mra (pa_cons pe_int pa_nil)) (pg_name (i := 2) scLa.nd rfl (Or.inl rfl))
        (pss_cons (ps_par (i := 3) (j := 4) (by rfl) scLa.nd rfl rfl (by decide) rfl rfl (pa_cons (pe_op op_add pe_int (pe_call GT.F hr rfl GT.g GT.k GT.b .nil pass0 (pa_cons (pv 1) (pa_cons pe_int pa_nil)))) (pa_cons (pe_call GT.F hr rfl GT.g GT.k GT.b .nil pass0 (pa_cons (pv 1) (pa_cons pe_int pa_nil))) pa_nil)) (by rfl))
        (pss_cons (ps_set (i := 5) scLa.nd rfl (Or.inl rfl) (pe_call GI.F hr rfl GI.g GI.k GI.b .nil pass0 (pa_cons (pv 1) (pa_cons (pv 3) (pa_cons (pe_call GT.F hr rfl GT.g GT.k GT.b .nil pass0 (pa_cons (pv 1) (pa_cons pe_int pa_nil))) pa_nil)))))
        (pss_cons (ps_set (i := 6) scLa.nd rfl (Or.inl rfl) (pe_tup (pa_cons pe_str (pa_cons (pv 3) pa_nil))))
        (pss_cons (ps_if (pt_cmpR op_gt (pv 4) pe_int (nomark _)) (pss_cons (ps_set (i := 7) scLa.nd rfl (Or.inl rfl) (pe_call GT.F hr rfl GT.g GT.k GT.b .nil pass0 (pa_cons (pv 1) (pa_cons (pe_op op_add (pe_callB call_len_seq (by rfl) N.ml PySem.boot_len (pa_cons (pv 5) pa_nil)) pe_int) pa_nil))))
        (pss_cons (ps_set (i := 5) scLa.nd rfl (Or.inl rfl) (pe_op op_cat (pe_op op_cat (pe_slice (r := rSlL K) sl_list (pv 5) po_none (po_some (pv 7))) (pe_lst (pa_cons (pe_tup (pa_cons pe_int (pa_cons pe_int (pa_cons pe_int pa_nil)))) (pa_cons (pe_tup (pa_cons pe_int (pa_cons pe_int (pa_cons (pe_op op_add pe_int (pe_call GT.F hr rfl GT.g GT.k GT.b .nil pass0 (pa_cons (pv 1) (pa_cons pe_int pa_nil)))) pa_nil)))) pa_nil)))) (pe_slice (r := rSlL K) sl_list (pv 5) (po_some (pv 7)) po_none)))
        (pss_one (ps_set (i := 6) scLa.nd rfl (Or.inl rfl) (pe_tup (pa_cons pe_str (pa_cons pe_int pa_nil))))))) pss_nil)
        (pss_cons (ps_if (pt_cmpR op_in_seq (pv 4) (pe_tup (pa_cons pe_int (pa_cons pe_int (pa_cons pe_int pa_nil)))) (by rfl)) (pss_cons (ps_set (i := 7) scLa.nd rfl (Or.inl rfl) (pe_call GT.F hr rfl GT.g GT.k GT.b .nil pass0 (pa_cons (pv 1) (pa_cons (pe_op op_add (pe_callB call_len_seq (by rfl) N.ml PySem.boot_len (pa_cons (pv 5) pa_nil)) pe_int) pa_nil))))
        (pss_cons (ps_set (i := 5) scLa.nd rfl (Or.inl rfl) (pe_op op_cat (pe_op op_cat (pe_slice (r := rSlL K) sl_list (pv 5) po_none (po_some (pv 7))) (pe_lst (pa_cons (pe_call GBI.F hr rfl GBI.g GBI.k GBI.b .nil pass0 (pa_cons (pv 1) (pa_cons (pv 3) pa_nil))) pa_nil))) (pe_slice (r := rSlL K) sl_list (pv 5) (po_some (pv 7)) po_none)))
        (pss_cons (ps_if (pt_cmpR op_eq (pv 4) pe_int (nomark _)) (pss_one (ps_set (i := 5) scLa.nd rfl (Or.inl rfl) (pe_op op_cat (pe_op op_cat (pe_slice (r := rSlL K) sl_list (pv 5) po_none (po_some (pe_op op_add (pv 7) pe_int))) (pe_lst (pa_cons (pe_call GBI.F hr rfl GBI.g GBI.k GBI.b .nil pass0 (pa_cons (pv 1) (pa_cons (pv 3) pa_nil))) pa_nil))) (pe_slice (r := rSlL K) sl_list (pv 5) (po_some (pe_op op_add (pv 7) pe_int)) po_none)))) pss_nil)
        (pss_one (ps_set (i := 6) scLa.nd rfl (Or.inl rfl) (pe_tup (pa_cons pe_str (pa_cons (pv 7) pa_nil)))))))) pss_nil)
        (pss_cons (ps_set (i := 8) scLa.nd rfl (Or.inl rfl) (pe_callB (r := rReprQ K) (call_reprQ rfl hgd hr.units) (by rfl) N.mr (by decide +kernel) (pa_cons (pv 5) pa_nil)))
        (pss_cons (ps_for PassesOwn.never rfl (pi_tup (pe_tup (pa_cons (pv 5) (pa_cons (pe_callTy call_tuple_of (by rfl) N.mt (by decide +kernel) (pa_cons (pv 5) pa_nil)) pa_nil)))) (pg_name (i := 9) scLa.nd rfl (Or.inl rfl)) (pss_one (ps_if (PW.pt (pw_or (pt_cmpR op_ne (pe_callB (r := rReprT K) (call_reprT rfl hgd hr.units) (by rfl) N.mr (by decide +kernel) (pa_cons (pe_call GH.F hr rfl GH.g GH.k GH.b .nil pass0 (pa_cons (pv 3) (pa_cons (pv 9) pa_nil))) pa_nil)) (pe_callB (r := rReprT K) (call_reprT rfl hgd hr.units) (by rfl) N.mr (by decide +kernel) (pa_cons (pv 6) pa_nil)) (nomark _)) (pw_or1 (pt_cmpR op_ne (pe_callB (r := rReprQ K) (call_reprQ rfl hgd hr.units) (by rfl) N.mr (by decide +kernel) (pa_cons (pv 5) pa_nil)) (pv 8) (nomark _))))) (pss_one ps_never) pss_nil)))
        (pss_cons (ps_set (i := 10) scLa.nd rfl (Or.inl rfl) (pe_call GBS.F hr rfl GBS.g GBS.k GBS.b .nil pass0 (pa_cons (pv 1) pa_nil)))
        (pss_cons (ps_if (PW.pt (pw_or (pt_cmpR (r := rNeD K) (op_neD hr.units) (pe_call GH.F hr rfl GH.g GH.k GH.b .nil pass0 (pa_cons (pv 10) (pa_cons (pv 5) pa_nil))) (pe_tup (pa_cons pe_str (pa_cons pe_int pa_nil))) (nomark _)) (pw_or1 (pt_cmpR (r := rNeD K) (op_neD hr.units) (pe_call GH.F hr rfl GH.g GH.k GH.b .nil pass0 (pa_cons (pv 10) (pa_cons (pe_call GBT.F hr rfl GBT.g GBT.k GBT.b .nil pass0 (pa_cons (pv 1) pa_nil)) pa_nil))) (pe_tup (pa_cons pe_str (pa_cons pe_int pa_nil))) (nomark _))))) (pss_one ps_never) pss_nil)
        (pss_one (ps_if (PW.pt (pw_and (pt_cmpR op_eq (pv 4) pe_int (nomark _)) (pw_and1 (pt_cmpR (r := rNeD K) (op_neD hr.units) (pe_call GH.F hr rfl GH.g GH.k GH.b .nil pass0 (pa_cons (pv 3) (pa_cons (pe_call GBT.F hr rfl GBT.g GBT.k GBT.b .nil pass0 (pa_cons (pv 1) pa_nil)) pa_nil))) (pe_tup (pa_cons pe_str (pa_cons pe_int pa_nil))) (nomark _))))) (pss_one ps_never) pss_nil))))))))))))
      (pss_one (ps_ret (pe_and (pe_cmpR (op_eqD hr.units) (pe_call GH.F hr rfl GH.g GH.k GH.b .nil pass0 (pa_cons pe_int (pa_cons (pe_lst (pa_cons (pe_tup (pa_cons pe_int (pa_cons pe_int (pa_cons pe_int pa_nil)))) pa_nil)) pa_nil))) (pe_tup (pa_cons pe_str (pa_cons pe_int pa_nil))) (nomark _)) (pe_one (pe_cmpR (op_eqD hr.units) (pe_call GH.F hr rfl GH.g GH.k GH.b .nil pass0 (pa_cons pe_int (pa_cons (pe_tup pa_nil) pa_nil))) (pe_tup (pa_cons pe_str (pa_cons pe_int pa_nil))) (nomark _))))))), ?_⟩
    refine ⟨_, rfl, a, ns, rfl, hS, hlen, fun H1 b l s1 nb B1 => ?_⟩
    clear hS hlen s1 nb
    refine ⟨(12 : Int), rfl, by omega, by omega, ?_⟩
    rw [show ((12 : Int)).toNat = 12 from rfl]
    refine for_it (walk_range (n := 12)) (fun i σ H2 => (∃ v2 v3 v4 v5 v6 v7 v8 v9 v10, σ = [some (.ref a), some (.ref b), v2, v3, v4, v5, v6, v7, v8, v9, v10]) ∧ BagAt H2 b l (60 * i)) ?_ (fun _ _ _ _ _ => True.intro) ?_ ?_
    · exact ⟨⟨_, _, _, _, _, _, _, _, _, rfl⟩, B1⟩
    · rintro i x σ H2 H3 hlt ⟨⟨v2, v3, v4, v5, v6, v7, v8, v9, v10, rfl⟩, B2⟩ ⟨rfl, rfl⟩
      refine ⟨_, rfl, b, l, 6, _, rfl, by decide, by decide, B2, by omega, fun r1 H4 r10 r11 B4 b4 => ⟨2, r1, rfl, rfl, _, rfl, b, l, 6, _, rfl, by decide, by decide, B4, by omega, fun r2 H5 r20 r21 B5 b5 => ⟨_, _, rfl, ?_⟩⟩⟩
      obtain ⟨n, hn⟩ : ∃ n : Nat, (n : Int) = 2 + r1 := ⟨(2 + r1).toNat, by omega⟩
      have en : (fun (i j : Int) => V.int (i + j)) 2 r1 = V.int (n : Int) := by show V.int _ = V.int _; rw [hn]
      rw [en]
      have hn2 : 2 ≤ n := by omega
      have hn60 : n ≤ 60 := by omega
      clear en hn r10 r11 b4 b5 B4 B2
      refine ⟨_, rfl, _, rfl, _, rfl, b, l, 8, _, rfl, by decide, by decide, B5, by omega, fun r3 H6 r30 r31 B6 b6 => ?_⟩
      obtain ⟨m, rfl⟩ : ∃ k : Nat, r3 = k := ⟨r3.toNat, (Int.toNat_of_nonneg r30).symm⟩
      refine ⟨b, l, _, n, m, rfl, B6, by omega, by omega, by omega, fun H7 I xs ps B7 b7 nI hI hT hl hv ham => ?_⟩
      have hIb : I ≠ b := Ne.symm (let ⟨⟨_, h⟩, _⟩ := B6.in'; ne_of_none h nI)
      have B7 : BagAt H7 b l (60 * i + 40) := B7.mono (by omega)
      refine ⟨_, rfl, (by show 2 ≤ sizeLine; decide), fun D nD => ?_⟩
      have hDb : D ≠ b := Ne.symm (let ⟨⟨_, h⟩, _⟩ := B7.in'; ne_of_none h nD)
      have sD := same_upd (o := .tup [V.str "made", .int (n : Int)]) nD
      have hD : (upd H7 D (.tup [V.str "made", .int (n : Int)])) D = some (.tup [V.str "made", .int (n : Int)]) := upd_same
      have Gd : Good K b (upd H7 D (.tup [V.str "made", .int (n : Int)])) n I xs "made" n := ⟨sD _ _ hI, hIb, by have := hT.length; omega, ps, hT.same sD, hv, .inl ⟨rfl, rfl, ham⟩⟩
      have B8 := B7.same sD
      generalize upd H7 D (.tup [V.str "made", .int (n : Int)]) = H8 at sD hD Gd B8 ⊢
      have hl7 : xs.length ≤ 7 := by have := hT.length; omega
      clear sD nD hI hT hl hv ham nI b6 b7 B6 B7 B5 hIb
      -- too many
      refine (?_ : Ends.nx {nx := tSeq (tIfS _ _ tNext) _ _, ct := _, bk := _, rt := _} _ _)
      refine seq_same (t := tIfS _ _ tNext) (fun σ' H' => ∃ v7 D I xs due di, σ' = [some (.ref a), some (.ref b), some (.int (0 + (i : Int))), some (.int (n : Int)), some (.int r2), some (.ref I), some (.ref D), v7, v8, v9, v10] ∧ BagAt H' b l (60 * i + 44) ∧
        H' D = some (.tup [.str due, .int di]) ∧ D ≠ b ∧ Good K b H' n I xs due di) ?_ ?_
      rotate_left
      · intro D' hD'
        refine ⟨_, rfl, r2, 3, rfl, rfl, _, rfl, ?_⟩
        cases hm : decide (r2 > 3) with
        | false => exact hD' _ _ ⟨_, D, I, xs, _, _, rfl, B8.mono (by omega), hD, hDb, Gd⟩
        | true =>
          have hlen := Gd.len
          refine ⟨_, rfl, _, rfl, I, xs, rfl, .inl (.inl (.inl Gd.at')), (xs.length : Int), 1, rfl, rfl, b, l, (xs.length : Int) + 1, _, rfl, by omega, by omega, B8, by omega, fun r4 H9 r40 r41 B9 b9 => ?_⟩
          obtain ⟨at', rfl⟩ : ∃ k : Nat, r4 = k := ⟨r4.toNat, (Int.toNat_of_nonneg r40).symm⟩
          obtain ⟨⟨xb8, hb8⟩, _⟩ := B8.in'
          have hI9 := b9 _ _ Gd.ne Gd.at'
          obtain ⟨ps, hT, hv, hq⟩ := Gd.ex
          have hT9 := Trs.but hb8 b9 hT
          refine ⟨_, rfl, _, rfl, (at' : Int), rfl, I, xs, rfl, .inl (.inl hI9), fun p1 np1 => ?_⟩
          rw [cut_take]
          have sp1 := same_upd (o := .lst (xs.take at')) np1
          have hp1 : (upd H9 p1 (.lst (xs.take at'))) p1 = some (.lst (xs.take at')) := upd_same
          generalize upd H9 p1 (.lst (xs.take at')) = HA at sp1 hp1 ⊢
          refine ⟨(by show 3 ≤ sizeLine; decide), fun t1 nt1 => ?_⟩
          have st1 := same_upd (o := .tup [V.int 0, .int 1, .int 1000000000]) nt1
          have ht1 : (upd HA t1 (.tup [V.int 0, .int 1, .int 1000000000])) t1 = some (.tup [V.int 0, .int 1, .int 1000000000]) := upd_same
          generalize upd HA t1 (.tup [V.int 0, .int 1, .int 1000000000]) = HB at st1 ht1 ⊢
          have BB := (B9.same sp1).same st1
          refine ⟨_, rfl, b, l, 3, _, rfl, by decide, by decide, BB, by omega, fun r5 HC r50 r51 BC bC => ⟨1, r5, rfl, rfl, (by show 3 ≤ sizeLine; decide), fun t2 nt2 => ?_⟩⟩
          obtain ⟨⟨xbB, hbB⟩, _⟩ := BB.in'
          have ne1 : p1 ≠ b := Ne.symm (let ⟨⟨_, h⟩, _⟩ := B9.in'; ne_of_none h np1)
          have net : t1 ≠ b := Ne.symm (let ⟨⟨_, h⟩, _⟩ := (B9.same sp1).in'; ne_of_none h nt1)
          have hp1C := bC _ _ ne1 (st1 _ _ hp1)
          have ht1C := bC _ _ net ht1
          have hIC := bC _ _ Gd.ne (st1 _ _ (sp1 _ _ hI9))
          have hTC := Trs.but hbB bC ((hT9.same sp1).same st1)
          have st2 := same_upd (o := .tup [V.int 1, .int 0, .int (1 + r5)]) nt2
          have ht2 : (upd HC t2 (.tup [V.int 1, .int 0, .int (1 + r5)])) t2 = some (.tup [V.int 1, .int 0, .int (1 + r5)]) := upd_same
          generalize upd HC t2 (.tup [V.int 1, .int 0, .int (1 + r5)]) = HD at st2 ht2 ⊢
          refine ⟨(by show 2 ≤ sizeLine; decide), fun p2 np2 => ?_⟩
          have sp2 := same_upd (o := .lst [V.ref t1, .ref t2]) np2
          have hp2 : (upd HD p2 (.lst [V.ref t1, .ref t2])) p2 = some (.lst [V.ref t1, .ref t2]) := upd_same
          generalize upd HD p2 (.lst [V.ref t1, .ref t2]) = HE at sp2 hp2 ⊢
          refine ⟨p1, p2, _, _, rfl, rfl, sp2 _ _ (st2 _ _ hp1C), hp2, by rw [List.length_take, sizeLine_eq]; show _ + 2 ≤ _; omega, fun p3 np3 => ?_⟩
          have sp3 := same_upd (o := .lst (xs.take at' ++ [V.ref t1, .ref t2])) np3
          have hp3 : (upd HE p3 (.lst (xs.take at' ++ [V.ref t1, .ref t2]))) p3 = some (.lst (xs.take at' ++ [V.ref t1, .ref t2])) := upd_same
          generalize upd HE p3 (.lst (xs.take at' ++ [V.ref t1, .ref t2])) = HF at sp3 hp3 ⊢
          have hIF := sp3 _ _ (sp2 _ _ (st2 _ _ hIC))
          refine ⟨_, rfl, _, rfl, (at' : Int), rfl, I, xs, rfl, .inl (.inl hIF), fun p4 np4 => ?_⟩
          rw [cut_drop]
          have sp4 := same_upd (o := .lst (xs.drop at')) np4
          have hp4 : (upd HF p4 (.lst (xs.drop at'))) p4 = some (.lst (xs.drop at')) := upd_same
          generalize upd HF p4 (.lst (xs.drop at')) = HG at sp4 hp4 ⊢
          refine ⟨p3, p4, _, _, rfl, rfl, sp4 _ _ hp3, hp4, by rw [List.length_append, List.length_take, List.length_drop, sizeLine_eq]; show _ + 2 + _ ≤ _; omega, fun p5 np5 => ?_⟩
          have sp5 := same_upd (o := .lst (xs.take at' ++ [V.ref t1, .ref t2] ++ xs.drop at')) np5
          have hp5 : (upd HG p5 (.lst (xs.take at' ++ [V.ref t1, .ref t2] ++ xs.drop at'))) p5 = some (.lst (xs.take at' ++ [V.ref t1, .ref t2] ++ xs.drop at')) := upd_same
          generalize upd HG p5 (.lst (xs.take at' ++ [V.ref t1, .ref t2] ++ xs.drop at')) = HJ at sp5 hp5 ⊢
          refine ⟨(by show 2 ≤ sizeLine; decide), fun D2 nD2 => ?_⟩
          have sD2 := same_upd (o := .tup [V.str "many", .int 1000000000]) nD2
          have sAll := st2.trans (sp2.trans (sp3.trans (sp4.trans (sp5.trans sD2))))
          have sfx := sp3.trans (sp4.trans (sp5.trans sD2))
          have BZ := BC.same sAll
          refine hD' _ _ ⟨_, D2, p5, xs.take at' ++ [V.ref t1, .ref t2] ++ xs.drop at', "many", 1000000000, rfl, BZ.mono (by omega), upd_same, Ne.symm (let ⟨⟨_, h⟩, _⟩ := (BC.same (st2.trans (sp2.trans (sp3.trans (sp4.trans sp5))))).in'; ne_of_none h nD2), ?_⟩
          have hTZ := hTC.same sAll
          have ht1Z := sAll _ _ ht1C
          have ht2Z := (sp2.trans sfx) _ _ ht2
          have hat : at' ≤ xs.length := by omega
          refine ⟨sD2 _ _ hp5, Ne.symm (let ⟨⟨_, h⟩, _⟩ := (BC.same (st2.trans (sp2.trans (sp3.trans sp4)))).in'; ne_of_none h np5), by rw [List.length_append, List.length_append, List.length_take, List.length_drop]; show _ + 2 + _ ≤ _; omega, ps.take at' ++ [(0, 1, 1000000000), (1, 0, 1 + r5)] ++ ps.drop at', ?_, fun p hp => ?_, .inr ⟨rfl, rfl, 0, 1, ?_⟩⟩
          · exact Trs.append (Trs.append (Trs.take at' hTZ) ⟨⟨t1, rfl, .inl (.inl ht1Z)⟩, ⟨t2, rfl, .inl (.inl ht2Z)⟩, True.intro⟩) (trs_drop at' hTZ)
          · simp only [List.mem_append, List.mem_cons, List.not_mem_nil, or_false] at hp
            rcases hp with (hp | rfl | rfl) | hp
            · exact hv p (List.mem_of_mem_take hp)
            · exact tieB_iff.mpr ⟨by show (0 : Int) ≤ 0; omega, by show (0 : Int) < _; omega, by show (0 : Int) ≤ 1; omega, by show (1 : Int) < _; omega, by show (0 : Int) ≠ 1; omega, by show (0 : Int) ≤ 1000000000; omega, by show (1000000000 : Int) ≤ _; omega⟩
            · exact tieB_iff.mpr ⟨by show (0 : Int) ≤ 1; omega, by show (1 : Int) < _; omega, by show (0 : Int) ≤ 0; omega, by show (0 : Int) < _; omega, by show (1 : Int) ≠ 0; omega, by show (0 : Int) ≤ 1 + r5; omega, by show 1 + r5 ≤ _; omega⟩
            · exact hv p (List.mem_of_mem_drop hp)
          · have nn : ∀ {qs : List T3}, (∀ p ∈ qs, p ∈ ps) → 0 ≤ amt (qs.map norm) 0 1 := fun {qs} hs => amt_nonneg fun p hp => by
              obtain ⟨p0, h0, rfl⟩ := List.mem_map.mp hp
              have := norm_ok (hv p0 (hs p0 h0))
              omega
            have a1 := nn (qs := ps.take at') fun p hp => List.mem_of_mem_take hp
            have a2 := nn (qs := ps.drop at') fun p hp => List.mem_of_mem_drop hp
            rw [List.map_append, List.map_append, amt_append, amt_append]
            have a3 : amt (([(0, 1, 1000000000), (1, 0, 1 + r5)] : List T3).map norm) 0 1 = 1000000000 + (1 + r5) := by simp [norm, amt]
            omega
      · rintro σ H9 ⟨v7, D, I, xs, due, di, rfl, B9, hD, hDb, Gd⟩
        obtain ⟨⟨xb, hb9⟩, _⟩ := B9.in'
        have It := Gd.its hb9 hn60
        -- none a tie
        refine seq_same2 (t := tIfS _ _ tNext) (fun σ' H' => ∃ v7 D I xs due di, σ' = [some (.ref a), some (.ref b), some (.int (0 + (i : Int))), some (.int (n : Int)), some (.int r2), some (.ref I), some (.ref D), v7, v8, v9, v10] ∧ BagAt H' b l (60 * i + 50) ∧
          H' D = some (.tup [.str due, .int di]) ∧ D ≠ b ∧ Its K b H' n I xs due di) ?_ ?_
        rotate_left
        · intro D' hD'
          obtain ⟨ps, hT, hv, hq⟩ := Gd.ex
          have hE9 : Els K b H9 (n : Int) xs (ps.map fun _ => true) := els_trs hb9 (by omega) hT hv
          have htr : ∀ j, j < ps.length → (ps.map fun _ => true)[j]? = some true := fun j hj => by rw [List.getElem?_map, List.getElem?_eq_getElem hj]; rfl
          have hpl : xs.length = ps.length := hT.length
          have hlen := Gd.len
          refine ⟨_, rfl, (by show 3 ≤ sizeLine; decide), fun T nT => ⟨T, _, rfl, .inr (.inl (.inl upd_same)), rfl, rfl, _, rfl, ?_⟩⟩
          have sT := same_upd (o := .tup [V.int 1, .int 2, .int 5]) nT
          have hIT := sT _ _ Gd.at'
          have hDT := sT _ _ hD
          have BT := B9.same sT
          have hET := hE9.but (But.of sT)
          have ItT := It.but hb9 (But.of sT)
          generalize upd H9 T (.tup [V.int 1, .int 2, .int 5]) = HT at sT hIT hDT BT hET ItT ⊢
          generalize (if (false : Bool) = true then !inV (V.int r2) [V.int 1, .int 2, .int 5] else inV (V.int r2) [V.int 1, .int 2, .int 5]) = bb
          cases bb with
          | false => exact hD' _ _ ⟨_, D, I, xs, due, di, rfl, BT.mono (by omega), hDT, hDb, ItT⟩
          | true =>
            refine ⟨_, rfl, _, rfl, I, xs, rfl, .inl (.inl (.inl hIT)), (xs.length : Int), 1, rfl, rfl, b, l, (xs.length : Int) + 1, _, rfl, by omega, by omega, BT, by omega, fun r4 H0 r40 r41 B0 b0 => ?_⟩
            obtain ⟨at', rfl⟩ : ∃ k : Nat, r4 = k := ⟨r4.toNat, (Int.toNat_of_nonneg r40).symm⟩
            have hI0 := b0 _ _ Gd.ne hIT
            have hIb0 := Gd.ne
            have hE0 := hET.but b0
            have hat : at' ≤ xs.length := by omega
            refine ⟨_, rfl, _, rfl, (at' : Int), rfl, ?_⟩
            refine ⟨I, xs, rfl, .inl (.inl hI0), fun p1 np1 => ?_⟩
            rw [cut_take]
            have sp1 := same_upd (o := .lst (xs.take at')) np1
            have hp1 : (upd H0 p1 (.lst (xs.take at'))) p1 = some (.lst (xs.take at')) := upd_same
            generalize upd H0 p1 (.lst (xs.take at')) = HA0 at sp1 hp1 ⊢
            have BA0 := B0.same sp1
            refine ⟨_, rfl, _, rfl, b, l, _, n, rfl, BA0, by omega, hn2, hn60, fun HC0 x0 BC0 bC0 hx0 => ⟨(by show 1 ≤ sizeLine; decide), fun p2 np2 => ?_⟩⟩
            have ne1 : p1 ≠ b := Ne.symm (let ⟨⟨_, h⟩, _⟩ := B0.in'; ne_of_none h np1)
            have hp1C := bC0 _ _ ne1 hp1
            have hIC := bC0 _ _ hIb0 (sp1 _ _ hI0)
            have hEC := (hE0.but (But.of sp1)).but bC0
            have sp2 := same_upd (o := .lst [x0]) np2
            have hp2 : (upd HC0 p2 (.lst [x0])) p2 = some (.lst [x0]) := upd_same
            generalize upd HC0 p2 (.lst [x0]) = HE0 at sp2 hp2 ⊢
            refine ⟨p1, p2, _, _, rfl, rfl, sp2 _ _ hp1C, hp2, by rw [List.length_take, sizeLine_eq]; show _ + 1 ≤ _; omega, fun p3 np3 => ?_⟩
            have sp3 := same_upd (o := .lst (xs.take at' ++ [x0])) np3
            have hp3 : (upd HE0 p3 (.lst (xs.take at' ++ [x0]))) p3 = some (.lst (xs.take at' ++ [x0])) := upd_same
            generalize upd HE0 p3 (.lst (xs.take at' ++ [x0])) = HF0 at sp3 hp3 ⊢
            have hIF := sp3 _ _ (sp2 _ _ hIC)
            refine ⟨_, rfl, _, rfl, (at' : Int), rfl, I, xs, rfl, .inl (.inl hIF), fun p4 np4 => ?_⟩
            rw [cut_drop]
            have sp4 := same_upd (o := .lst (xs.drop at')) np4
            have hp4 : (upd HF0 p4 (.lst (xs.drop at'))) p4 = some (.lst (xs.drop at')) := upd_same
            generalize upd HF0 p4 (.lst (xs.drop at')) = HG0 at sp4 hp4 ⊢
            refine ⟨p3, p4, _, _, rfl, rfl, sp4 _ _ hp3, hp4, by rw [List.length_append, List.length_take, List.length_drop, sizeLine_eq]; show _ + 1 + _ ≤ _; omega, fun p5 np5 => ?_⟩
            have sp5 := same_upd (o := .lst (xs.take at' ++ [x0] ++ xs.drop at')) np5
            have sAll0 := sp2.trans (sp3.trans (sp4.trans sp5))
            have ne5 : p5 ≠ b := Ne.symm (let ⟨⟨_, h⟩, _⟩ := (BC0.same (sp2.trans (sp3.trans sp4))).in'; ne_of_none h np5)
            have hE1 : Els K b HC0 (n : Int) [x0] [false] := ⟨el_bad hx0, True.intro⟩
            have hEN := ((hEC.take at').append hE1).append (hEC.drop at')
            have BN := BC0.same sAll0
            have hat2 : at' ≤ (ps.map fun _ => true).length := by rw [List.length_map]; omega
            have hp5 : (upd HG0 p5 (.lst (xs.take at' ++ [x0] ++ xs.drop at'))) p5 = some (.lst (xs.take at' ++ [x0] ++ xs.drop at')) := upd_same
            have hEN := hEN.but (But.of sAll0)
            have hDN := sAll0 _ _ (bC0 _ _ hDb (sp1 _ _ (b0 _ _ hDb hDT)))
            have f1 := ins_at (c := false) hat2
            have f2 : ∀ j, j < at' → ((ps.map fun _ => true).take at' ++ [false] ++ (ps.map fun _ => true).drop at')[j]? = some true := fun j hj => (ins_lt hat2 hj).trans (htr j (by omega))
            have hl1 : (xs.take at' ++ [x0] ++ xs.drop at').length = xs.length + 1 := by rw [List.length_append, List.length_append, List.length_take, List.length_drop]; show _ + 1 + _ = _; omega
            generalize (ps.map fun _ => true).take at' ++ [false] ++ (ps.map fun _ => true).drop at' = bs1 at hEN f1 f2
            generalize xs.take at' ++ [x0] ++ xs.drop at' = xs1 at hp5 hEN hl1 BN sp5 sAll0 hDN ⊢
            generalize upd HG0 p5 (.lst xs1) = HN at hp5 hEN BN sp5 sAll0 hDN ⊢
            refine (?_ : Ends.nx {nx := tSeq (tIfS _ _ tNext) _ _, ct := _, bk := _, rt := _} _ _)
            refine seq_same (t := tIfS _ _ tNext) (fun σ' H' => ∃ I xs, σ' = [some (.ref a), some (.ref b), some (.int (0 + (i : Int))), some (.int (n : Int)), some (.int r2), some (.ref I), some (.ref D), some (.int (at' : Int)), v8, v9, v10] ∧ BagAt H' b l (60 * i + 50) ∧
              H' I = some (.lst xs) ∧ I ≠ b ∧ xs.length ≤ 11 ∧ ∃ bs, Els K b H' (n : Int) xs bs ∧ bs[at']? = some false ∧ ∀ j, j < at' → bs[j]? = some true) ?_ ?_
            · rintro σ HX ⟨IX, xsX, rfl, BX, hIX, hIbX, hlX, bs, hEX, q1, q2⟩
              refine ⟨_, rfl, (by show 2 ≤ sizeLine; decide), fun D2 nD2 => ?_⟩
              have sD2 := same_upd (o := .tup [V.str "tie", .int (at' : Int)]) nD2
              refine hD' _ _ ⟨_, D2, IX, xsX, "tie", at', rfl, BX.same sD2, upd_same, Ne.symm (let ⟨⟨_, h⟩, _⟩ := BX.in'; ne_of_none h nD2), ?_⟩
              exact ⟨sD2 _ _ hIX, hIbX, hlX, ⟨bs, hEX.but (But.of sD2)⟩, ⟨by decide +kernel, by show _ < _; omega⟩, .inr ⟨rfl, at', bs, rfl, hEX.but (But.of sD2), q1, q2⟩⟩
            · intro D2 hD2
              refine ⟨_, rfl, rfl, _, rfl, ?_⟩
              cases (decide (V.int r2 = V.int 2)) with
              | false => exact hD2 _ _ ⟨p5, xs1, rfl, BN.mono (by omega), hp5, ne5, by omega, bs1, hEN, f1, f2⟩
              | true =>
                refine ⟨_, rfl, _, rfl, (at' : Int), 1, rfl, rfl, ((at' + 1 : Nat) : Int), rfl, p5, xs1, rfl, .inl (.inl hp5), fun q1 nq1 => ?_⟩
                rw [cut_take]
                have sq1 := same_upd (o := HO.lst (xs1.take (at' + 1))) nq1
                have hq1 : (upd HN q1 (HO.lst (xs1.take (at' + 1)))) q1 = some (HO.lst (xs1.take (at' + 1))) := upd_same
                generalize upd HN q1 (HO.lst (xs1.take (at' + 1))) = K1 at sq1 hq1 ⊢
                have BK1 := BN.same sq1
                refine ⟨_, rfl, _, rfl, b, l, _, n, rfl, BK1, by omega, hn2, hn60, fun K2 y BK2 bK2 hy => ⟨(by show 1 ≤ sizeLine; decide), fun q2 nq2 => ?_⟩⟩
                have neq1 : q1 ≠ b := Ne.symm (let ⟨⟨_, h⟩, _⟩ := BN.in'; ne_of_none h nq1)
                have hq1C := bK2 _ _ neq1 hq1
                have hp5C := bK2 _ _ ne5 (sq1 _ _ hp5)
                have hEK := (hEN.but (But.of sq1)).but bK2
                have sq2 := same_upd (o := HO.lst [y]) nq2
                have hq2 : (upd K2 q2 (HO.lst [y])) q2 = some (HO.lst [y]) := upd_same
                generalize upd K2 q2 (HO.lst [y]) = K3 at sq2 hq2 ⊢
                refine ⟨q1, q2, _, _, rfl, rfl, sq2 _ _ hq1C, hq2, by rw [List.length_take, sizeLine_eq]; show _ + 1 ≤ _; omega, fun q3 nq3 => ?_⟩
                have sq3 := same_upd (o := HO.lst (xs1.take (at' + 1) ++ [y])) nq3
                have hq3 : (upd K3 q3 (HO.lst (xs1.take (at' + 1) ++ [y]))) q3 = some (HO.lst (xs1.take (at' + 1) ++ [y])) := upd_same
                generalize upd K3 q3 (HO.lst (xs1.take (at' + 1) ++ [y])) = K4 at sq3 hq3 ⊢
                have hp5F := sq3 _ _ (sq2 _ _ hp5C)
                refine ⟨_, rfl, _, rfl, (at' : Int), 1, rfl, rfl, ((at' + 1 : Nat) : Int), rfl, p5, xs1, rfl, .inl (.inl hp5F), fun q4 nq4 => ?_⟩
                rw [cut_drop]
                have sq4 := same_upd (o := HO.lst (xs1.drop (at' + 1))) nq4
                have hq4 : (upd K4 q4 (HO.lst (xs1.drop (at' + 1)))) q4 = some (HO.lst (xs1.drop (at' + 1))) := upd_same
                generalize upd K4 q4 (HO.lst (xs1.drop (at' + 1))) = K5 at sq4 hq4 ⊢
                refine ⟨q3, q4, _, _, rfl, rfl, sq4 _ _ hq3, hq4, by rw [List.length_append, List.length_take, List.length_drop, sizeLine_eq]; show _ + 1 + _ ≤ _; omega, fun q5 nq5 => ?_⟩
                have sq5 := same_upd (o := .lst (xs1.take (at' + 1) ++ [y] ++ xs1.drop (at' + 1))) nq5
                have sB := sq2.trans (sq3.trans (sq4.trans sq5))
                have hE1 : Els K b K2 (n : Int) [y] [false] := ⟨el_bad hy, True.intro⟩
                have hEZ := (((hEK.take (at' + 1)).append hE1).append (hEK.drop (at' + 1))).but (But.of sB)
                have hbl := hEK.length
                have hk : at' + 1 ≤ bs1.length := (List.getElem?_eq_some_iff.mp f1).1
                refine hD2 _ _ ⟨q5, _, rfl, (BK2.same sB).mono (by omega), upd_same, Ne.symm (let ⟨⟨_, h⟩, _⟩ := (BK2.same (sq2.trans (sq3.trans sq4))).in'; ne_of_none h nq5), ?_, _, hEZ, (ins_lt hk (by omega)).trans f1, fun j hj => (ins_lt hk (by omega)).trans (f2 j hj)⟩
                rw [List.length_append, List.length_append, List.length_take, List.length_drop]
                show _ + 1 + _ ≤ _
                omega
        · rintro σ H10 ⟨v7, D, I, xs, due, di, rfl, B10, hD, hDb, It⟩
          obtain ⟨ds, hds, ds1, ds2, ds3⟩ := It.text
          obtain ⟨t1, t2, t3⟩ := txtA_ok It.sm.1 It.sm.2
          obtain ⟨⟨xb10, hb10⟩, _⟩ := B10.in'
          refine ⟨_, rfl, I, xs, ds, rfl, It.at', hds _ (But.refl _ _), ds1, ds2, ds3, ?_⟩
          refine ⟨_, rfl, _, rfl, I, xs, rfl, .inl ⟨.inl (.inl It.at'), fun tu ntu => ⟨(by show 2 ≤ sizeLine; decide), fun tp ntp => ?_⟩⟩⟩
          have stu := same_upd (o := .tup xs) ntu
          have stp := same_upd (o := .tup [V.ref I, .ref tu]) ntp
          have htu : (upd (upd H10 tu (.tup xs)) tp (.tup [V.ref I, .ref tu])) tu = some (.tup xs) := stp _ _ upd_same
          have htp : (upd (upd H10 tu (.tup xs)) tp (.tup [V.ref I, .ref tu])) tp = some (.tup [V.ref I, .ref tu]) := upd_same
          have s10 := stu.trans stp
          generalize upd (upd H10 tu (.tup xs)) tp (.tup [V.ref I, .ref tu]) = HT at htu htp s10 ⊢
          refine ⟨tp, rfl, ⟨_, .inl (.inl htp)⟩, ?_⟩
          refine for_tup (K := K) (a := tp) (xs := [V.ref I, .ref tu]) (fun j σ H' => (∃ v9, σ = [some (.ref a), some (.ref b), some (.int (0 + (i : Int))), some (.int (n : Int)), some (.int r2), some (.ref I), some (.ref D), v7, some (.str (listText (PyData.shownAll ds))), v9, v10]) ∧ Same HT H')
            ?_ (fun j σ H' _ p => .inl (.inl (p.2 _ _ htp))) ?_ ?_
          · exact ⟨⟨_, rfl⟩, Same.refl _⟩
          · rintro j x σ HU hx ⟨⟨v9', rfl⟩, sU⟩
            have sU10 := s10.trans sU
            have ItU := It.but hb10 (But.of sU10)
            obtain ⟨aa, rfl, hSU⟩ : ∃ aa, x = .ref aa ∧ SqS K HU aa xs := by
              match j, hx with
              | 0, hx => cases hx; exact ⟨I, rfl, .inl (.inl (.inl ItU.at'))⟩
              | 1, hx => cases hx; exact ⟨tu, rfl, .inr (.inl (.inl (sU _ _ htu)))⟩
              | (k + 2), hx => cases hx
            refine ⟨_, rfl, _, rfl, ItU.hear (E := E0) hn60 hSU (fun H' R s hR => ?_)⟩
            have sA := sU10.trans s
            refine ⟨R, _, _, rfl, .inl (.inl hR), .cons (.str _) (.cons (.int _) .nil), t1, t2, t3, _, rfl, D, _, _, rfl, .inl (.inl (sA _ _ hD)), .cons (.str _) (.cons (.int _) .nil), t1, t2, t3, rfl, _, rfl, ?_⟩
            rw [show (!decide (V.str (tupleText (PyData.shownAll [.str due, .int di])) = V.str (tupleText (PyData.shownAll [.str due, .int di])))) = false by rw [decide_eq_true rfl]; rfl]
            refine ⟨_, rfl, I, xs, ds, rfl, sA _ _ It.at', hds _ (But.of sA), ds1, ds2, ds3, _, rfl, rfl, _, rfl, ?_⟩
            rw [show (!decide (V.str (listText (PyData.shownAll ds)) = V.str (listText (PyData.shownAll ds)))) = false by rw [decide_eq_true rfl]; rfl]
            exact ⟨⟨_, rfl⟩, sU.trans s⟩
          · rintro σ HU ⟨⟨v9', rfl⟩, sU⟩
            have sU10 := s10.trans sU
            have BU := B10.same sU10
            refine ⟨_, rfl, b, l, _, rfl, BU, by omega, fun HV y BV bV hy => ?_⟩
            obtain ⟨ty, ay⟩ := hy.2 HV (But.refl _ _)
            refine ⟨_, rfl, _, rfl, y, ty, _, rfl, ay, .inl ⟨hy.1, fun HW R sW hR => ⟨(by show 2 ≤ sizeLine; decide), fun R2 nR2 => ?_⟩⟩⟩
            have sR2 := same_upd (o := .tup [V.str "wrong", .int 0]) nR2
            refine ⟨.tuple [.str "wrong", .int 0], .tuple [.str "wrong", .int 0], .tup (.inl (.inl (sR2 _ _ hR))) (.cons (.str _) (.cons (.int _) .nil)), .tup (.inl (.inl upd_same)) (.cons (.str _) (.cons (.int _) .nil)), by decide +kernel, by decide +kernel, _, rfl, ?_⟩
            rw [show (!PyData.eqv (.tuple [.str "wrong", .int 0]) (.tuple [.str "wrong", .int 0])) = false by decide +kernel]
            have BX := BV.same (sW.trans sR2)
            have hyX := fun H' (s : But b _ H') => hy.2 H' ((But.of (sW.trans sR2)).trans s)
            generalize upd HW R2 (.tup [V.str "wrong", .int 0]) = HX at BX hyX ⊢
            refine ⟨_, rfl, _, rfl, b, l, _, rfl, BX, by omega, fun HY z BY bY hz => ?_⟩
            obtain ⟨ty2, ay2⟩ := hyX HY bY
            refine ⟨y, ty2, z, rfl, ay2, .inl ⟨hy.1, fun HZ R3 sZ hR3 => ⟨(by show 2 ≤ sizeLine; decide), fun R4 nR4 => ?_⟩⟩⟩
            have sR4 := same_upd (o := .tup [V.str "wrong", .int 0]) nR4
            refine ⟨.tuple [.str "wrong", .int 0], .tuple [.str "wrong", .int 0], .tup (.inl (.inl (sR4 _ _ hR3))) (.cons (.str _) (.cons (.int _) .nil)), .tup (.inl (.inl upd_same)) (.cons (.str _) (.cons (.int _) .nil)), by decide +kernel, by decide +kernel, _, rfl, ?_⟩
            rw [show (!PyData.eqv (.tuple [.str "wrong", .int 0]) (.tuple [.str "wrong", .int 0])) = false by decide +kernel]
            have BZ := BY.same (sZ.trans sR4)
            generalize upd HZ R4 (.tup [V.str "wrong", .int 0]) = Y1 at BZ ⊢
            refine ⟨_, rfl, rfl, _, rfl, ?_⟩
            cases (decide (V.int r2 = V.int 3)) with
            | false => exact ⟨⟨_, _, _, _, _, _, _, _, _, rfl⟩, BZ.mono (by omega)⟩
            | true =>
              refine ⟨_, rfl, _, rfl, b, l, _, rfl, BZ, by omega, fun Y2 z2 BY2 bY2 hz2 => ?_⟩
              obtain ⟨tz, tyz, kz⟩ := hz2 Y2 (But.refl _ _)
              refine ⟨_, _, z2, rfl, any_int _, .inr ⟨n, rfl, hn60, .inl ⟨tz, tyz, kz, fun Y3 R5 s5 hR5 => ⟨(by show 2 ≤ sizeLine; decide), fun R6 nR6 => ?_⟩⟩⟩⟩
              have sR6 := same_upd (o := .tup [V.str "wrong", .int 1]) nR6
              refine ⟨.tuple [.str "wrong", .int 1], .tuple [.str "wrong", .int 1], .tup (.inl (.inl (sR6 _ _ hR5))) (.cons (.str _) (.cons (.int _) .nil)), .tup (.inl (.inl upd_same)) (.cons (.str _) (.cons (.int _) .nil)), by decide +kernel, by decide +kernel, _, rfl, ?_⟩
              rw [show (!PyData.eqv (.tuple [.str "wrong", .int 1]) (.tuple [.str "wrong", .int 1])) = false by decide +kernel]
              exact ⟨⟨_, _, _, _, _, _, _, _, _, rfl⟩, (BY2.same (s5.trans sR6)).mono (by omega)⟩
    · rintro σ H2 ⟨⟨v2, v3, v4, v5, v6, v7, v8, v9, v10, rfl⟩, B2⟩
      refine ⟨(by show 3 ≤ sizeLine; decide), fun t nt => ⟨(by show 1 ≤ sizeLine; decide), fun L nL => ?_⟩⟩
      have st := same_upd (o := .tup [V.int 59, .int 0, .int 1000000000]) nt
      have sL := same_upd (o := .lst [V.ref t]) nL
      refine ⟨_, _, _, rfl, any_int 60, .inr ⟨60, rfl, by decide, .inr ⟨L, [.ref t], rfl, .inl (.inl (.inl upd_same)), .inr ⟨[(59, 0, 1000000000)], ⟨⟨t, rfl, .inl (.inl (sL _ _ upd_same))⟩, True.intro⟩, by decide, fun p hp => ?_, .inl ⟨fun u v => ?_, fun H3 R s3 hR => ⟨(by show 2 ≤ sizeLine; decide), fun R2 nR2 => ?_⟩⟩⟩⟩⟩⟩
      · cases List.mem_singleton.mp hp
        exact tieB_iff.mpr ⟨by decide, by decide, by decide, by decide, by decide, by decide, by decide⟩
      · simp only [List.map_cons, List.map_nil, amt_cons, amt_nil, norm]
        split <;> omega
      have sR2 := same_upd (o := .tup [V.str "made", .int 60]) nR2
      refine ⟨.tuple [.str "made", .int 60], .tuple [.str "made", .int 60], .tup (.inl (.inl (sR2 _ _ hR))) (.cons (.str _) (.cons (.int _) .nil)), .tup (.inl (.inl upd_same)) (.cons (.str _) (.cons (.int _) .nil)), by decide +kernel, by decide +kernel, _, rfl, ?_⟩
      rw [show PyData.eqv (.tuple [.str "made", .int 60]) (.tuple [.str "made", .int 60]) = true by decide +kernel]
      refine ⟨(by show 0 ≤ sizeLine; decide), fun T nT => ?_⟩
      refine ⟨_, _, _, rfl, any_int 0, .inr ⟨0, rfl, by decide, .inr ⟨T, [], rfl, .inr (.inl (.inl upd_same)), .inr ⟨[], True.intro, by decide, fun p hp => (by cases hp), .inl ⟨fun u v => by show (0 : Int) ≤ _; decide, fun H4 R3 s4 hR3 => ⟨(by show 2 ≤ sizeLine; decide), fun R4 nR4 => ?_⟩⟩⟩⟩⟩⟩
      have sR4 := same_upd (o := .tup [V.str "made", .int 0]) nR4
      refine ⟨.tuple [.str "made", .int 0], .tuple [.str "made", .int 0], .tup (.inl (.inl (sR4 _ _ hR3))) (.cons (.str _) (.cons (.int _) .nil)), .tup (.inl (.inl upd_same)) (.cons (.str _) (.cons (.int _) .nil)), by decide +kernel, by decide +kernel, ?_⟩
      rw [show PyData.eqv (.tuple [.str "made", .int 0]) (.tuple [.str "made", .int 0]) = true by decide +kernel]
      exact q _
end
end T22
/-! What the head holds, gathered: the law's contract behind it. -/
namespace T22
open PySem PySem.Spec PyProof.Rows L2 Wk
/-- what must be seen of the class C (its methods at fi, fg, fa, fs, fm, fr) and of the errors' classes -/
def okB (K : PySem.W.Frag) (C fi cW cI cT cB iW iI iT : Addr) : Bool :=
  PySem.W.plainGet K C Str.empty && (PySem.W.hasDictIn K C && (PySem.W.plainOver K C && (decide (PySem.W.findIn K (.ref C) "__setattr__" = some (some (.builtin "object.__setattr__"))) && (decide (PySem.W.findIn K (.ref C) "size" = some none) && (decide (PySem.W.findIn K (.ref C) "ties" = some none) && (decide (PySem.W.findIn K (.ref C) "total" = some none) && (decide (PySem.W.findIn K (.ref C) "_numbers" = some none) && (decide (PySem.W.findIn K (.ref C) "degrees" = some none) && (decide (PySem.W.findIn K (.ref C) "__class__" = some (some (.builtin "object.__class__"))) && (decide (PySem.W.specialIn K (.builtin "object.__class__") "__get__" = some (some (.builtin "getset_descriptor.__get__"))) && (decide (PySem.W.takesIn K (.builtin "object.__class__") = some true) && (decide (PySem.W.mroIn K C (.type "object") = some true) && (decide (PySem.W.kitOne K (.ref C) (.ref C) = some true) && (PySem.W.makesIn K C && (PySem.W.isFn K (.ref fi) && (PySem.W.keepIn K (.ref C) && (decide (PySem.W.kitOne K (.ref C) (.type "int") = some false) && (decide (PySem.W.kitOne K (.ref C) (.type "bool") = some false) && (decide (PySem.W.kitOne K (.ref C) (.type "list") = some false) && (decide (PySem.W.kitOne K (.ref C) (.type "tuple") = some false) && (decide (PySem.W.findIn K (.ref cW) "__getattribute__" = some (some (.builtin "BaseException.__getattribute__"))) && (decide (PySem.W.findIn K (.ref cW) "__getattr__" = some none) && (decide (PySem.W.findIn K (.ref cW) "__class__" = some (some (.builtin "object.__class__"))) && (decide (PySem.W.subIn K (.ref cW) (.type "BaseException") = some true) && (decide (PySem.W.typeIn K (.ref cW) = some (.type "type")) && (PySem.W.keepIn K (.ref cW) && (PySem.W.hasDictIn K cW && (decide (PySem.W.mroIn K cW (.type "object") = some true) && (decide (PySem.W.exmOne K (.ref cW) (.ref cB) = some true) && (decide (PySem.W.findIn K (.ref cW) "__setattr__" = some (some (.builtin "object.__setattr__"))) && (decide (PySem.W.typeIn K (.ref iW) = some (.type "function")) && (decide (PySem.W.findIn K (.ref cW) "place" = some none) && (decide (PySem.W.kitOne K (.ref cW) (.ref cW) = some true) && (decide (PySem.W.kitOne K (.ref cW) (.ref cI) = some false) && (decide (PySem.W.kitOne K (.ref cW) (.ref cT) = some false) && (decide (PySem.W.findIn K (.ref cI) "__getattribute__" = some (some (.builtin "BaseException.__getattribute__"))) && (decide (PySem.W.findIn K (.ref cI) "__getattr__" = some none) && (decide (PySem.W.findIn K (.ref cI) "__class__" = some (some (.builtin "object.__class__"))) && (decide (PySem.W.subIn K (.ref cI) (.type "BaseException") = some true) && (decide (PySem.W.typeIn K (.ref cI) = some (.type "type")) && (PySem.W.keepIn K (.ref cI) && (PySem.W.hasDictIn K cI && (decide (PySem.W.mroIn K cI (.type "object") = some true) && (decide (PySem.W.exmOne K (.ref cI) (.ref cB) = some true) && (decide (PySem.W.findIn K (.ref cI) "__setattr__" = some (some (.builtin "object.__setattr__"))) && (decide (PySem.W.typeIn K (.ref iI) = some (.type "function")) && (decide (PySem.W.findIn K (.ref cI) "at" = some none) && (decide (PySem.W.kitOne K (.ref cI) (.ref cW) = some false) && (decide (PySem.W.kitOne K (.ref cI) (.ref cI) = some true) && (decide (PySem.W.kitOne K (.ref cI) (.ref cT) = some false) && (decide (PySem.W.findIn K (.ref cT) "__getattribute__" = some (some (.builtin "BaseException.__getattribute__"))) && (decide (PySem.W.findIn K (.ref cT) "__getattr__" = some none) && (decide (PySem.W.findIn K (.ref cT) "__class__" = some (some (.builtin "object.__class__"))) && (decide (PySem.W.subIn K (.ref cT) (.type "BaseException") = some true) && (decide (PySem.W.typeIn K (.ref cT) = some (.type "type")) && (PySem.W.keepIn K (.ref cT) && (PySem.W.hasDictIn K cT && (decide (PySem.W.mroIn K cT (.type "object") = some true) && (decide (PySem.W.exmOne K (.ref cT) (.ref cB) = some true) && (decide (PySem.W.findIn K (.ref cT) "__setattr__" = some (some (.builtin "object.__setattr__"))) && (decide (PySem.W.typeIn K (.ref iT) = some (.type "function")) && (decide (PySem.W.findIn K (.ref cT) "limit" = some none) && (decide (PySem.W.kitOne K (.ref cT) (.ref cW) = some false) && (decide (PySem.W.kitOne K (.ref cT) (.ref cI) = some false) && (decide (PySem.W.kitOne K (.ref cT) (.ref cT) = some true))))))))))))))))))))))))))))))))))))))))))))))))))))))))))))))))))
theorem and2 {a b : Bool} (h : (a && b) = true) : a = true ∧ b = true := Bool.and_eq_true_iff.mp h
theorem all_mk {l : PySem.W.OpenLaw} {w : World} {K : PySem.W.Frag} {h : Heap} {mg : Str → Option Value} {fa C cB : Addr} (X : K.In h) (G : h.Ns mainGlobals mg) (hfa : mg "law" = some (.ref fa))
    {f_whole : Addr} {oc_whole kV_whole dc_whole pm_whole cd_whole ct_whole : Value} {od_whole an_whole : Option Addr} {sl_whole : Array (Option Value)}
    {f_fromto : Addr} {oc_fromto kV_fromto dc_fromto pm_fromto cd_fromto ct_fromto : Value} {od_fromto an_fromto : Option Addr} {sl_fromto : Array (Option Value)}
    {f_place : Addr} {oc_place kV_place dc_place pm_place cd_place ct_place : Value} {od_place an_place : Option Addr} {sl_place : Array (Option Value)}
    {f_pair : Addr} {oc_pair kV_pair dc_pair pm_pair cd_pair ct_pair : Value} {od_pair an_pair : Option Addr} {sl_pair : Array (Option Value)}
    {f_tie : Addr} {oc_tie kV_tie dc_tie pm_tie cd_tie ct_tie : Value} {od_tie an_tie : Option Addr} {sl_tie : Array (Option Value)}
    {f_need : Addr} {oc_need kV_need dc_need pm_need cd_need ct_need : Value} {od_need an_need : Option Addr} {sl_need : Array (Option Value)}
    {f_bundles : Addr} {oc_bundles kV_bundles dc_bundles pm_bundles cd_bundles ct_bundles : Value} {od_bundles an_bundles : Option Addr} {sl_bundles : Array (Option Value)}
    {f_bounds : Addr} {oc_bounds kV_bounds dc_bounds pm_bounds cd_bounds ct_bounds : Value} {od_bounds an_bounds : Option Addr} {sl_bounds : Array (Option Value)}
    {f_degrees : Addr} {oc_degrees kV_degrees dc_degrees pm_degrees cd_degrees ct_degrees : Value} {od_degrees an_degrees : Option Addr} {sl_degrees : Array (Option Value)}
    {f_bag : Addr} {oc_bag kV_bag dc_bag pm_bag cd_bag ct_bag : Value} {od_bag an_bag : Option Addr} {sl_bag : Array (Option Value)}
    {f_take : Addr} {oc_take kV_take dc_take pm_take cd_take ct_take : Value} {od_take an_take : Option Addr} {sl_take : Array (Option Value)}
    {f_one : Addr} {oc_one kV_one dc_one pm_one cd_one ct_one : Value} {od_one an_one : Option Addr} {sl_one : Array (Option Value)}
    {f_items : Addr} {oc_items kV_items dc_items pm_items cd_items ct_items : Value} {od_items an_items : Option Addr} {sl_items : Array (Option Value)}
    {f_heard : Addr} {oc_heard kV_heard dc_heard pm_heard cd_heard ct_heard : Value} {od_heard an_heard : Option Addr} {sl_heard : Array (Option Value)}
    {f_bi : Addr} {oc_bi kV_bi dc_bi pm_bi cd_bi ct_bi : Value} {od_bi an_bi : Option Addr} {sl_bi : Array (Option Value)}
    {f_bs : Addr} {oc_bs kV_bs dc_bs pm_bs cd_bs ct_bs : Value} {od_bs an_bs : Option Addr} {sl_bs : Array (Option Value)}
    {f_bt : Addr} {oc_bt kV_bt dc_bt pm_bt cd_bt ct_bt : Value} {od_bt an_bt : Option Addr} {sl_bt : Array (Option Value)}
    {f_law : Addr} {oc_law kV_law dc_law pm_law cd_law ct_law : Value} {od_law an_law : Option Addr} {sl_law : Array (Option Value)}
    {nmW qW : Str}
    {NW : Addr}
    {bsW subW : List Value}
    {snW : List Str}
    {abW : Bool}
    {colW : Option Bool}
    {ddW : Option Addr}
    {xW yW zW uW vW : Option Value}
    {bmW : List Value}
    {f_xW : Addr} {oc_xW kV_xW dc_xW pm_xW cd_xW ct_xW : Value} {od_xW an_xW : Option Addr} {sl_xW : Array (Option Value)}
    {nmI qI : Str}
    {NI : Addr}
    {bsI subI : List Value}
    {snI : List Str}
    {abI : Bool}
    {colI : Option Bool}
    {ddI : Option Addr}
    {xI yI zI uI vI : Option Value}
    {bmI : List Value}
    {f_xI : Addr} {oc_xI kV_xI dc_xI pm_xI cd_xI ct_xI : Value} {od_xI an_xI : Option Addr} {sl_xI : Array (Option Value)}
    {nmT qT : Str}
    {NT : Addr}
    {bsT subT : List Value}
    {snT : List Str}
    {abT : Bool}
    {colT : Option Bool}
    {ddT : Option Addr}
    {xT yT zT uT vT : Option Value}
    {bmT : List Value}
    {f_xT : Addr} {oc_xT kV_xT dc_xT pm_xT cd_xT ct_xT : Value} {od_xT an_xT : Option Addr} {sl_xT : Array (Option Value)}
    {f_init T0 aE : Addr} {oc_init kV_init dc_init pm_init cd_init ct_init : Value} {od_init an_init : Option Addr} {sl_init : Array (Option Value)}
    {oT oE : Value} {dT dE : Option Addr} {nT nE : Nat} {sT sE : Array (Option Value)} {t60 t9 : Tok}
    (aC : PySem.W.nsIn K mainGlobals "Web" = some (some (.ref C)))
    (aB : PySem.W.nsIn K mainGlobals "ContentError" = some (some (.ref cB)))
    (a_whole : PySem.W.nsIn K mainGlobals "is_whole" = some (some (.ref f_whole)))
    (l_whole : K.lookup f_whole = some ⟨oc_whole, od_whole, .func (PySem.W.fnOf "is_whole" "is_whole" (defArgs sWhole) (defBody sWhole) (defScope sWhole) .none kV_whole dc_whole pm_whole an_whole cd_whole ct_whole), sl_whole⟩)
    (e_whole : PySem.W.codeIn K cd_whole "is_whole" = true)
    (k_whole : PySem.W.keepIn K (.ref f_whole) = true)
    (a_fromto : PySem.W.nsIn K mainGlobals "is_from_to" = some (some (.ref f_fromto)))
    (l_fromto : K.lookup f_fromto = some ⟨oc_fromto, od_fromto, .func (PySem.W.fnOf "is_from_to" "is_from_to" (defArgs sFromTo) (defBody sFromTo) (defScope sFromTo) .none kV_fromto dc_fromto pm_fromto an_fromto cd_fromto ct_fromto), sl_fromto⟩)
    (e_fromto : PySem.W.codeIn K cd_fromto "is_from_to" = true)
    (k_fromto : PySem.W.keepIn K (.ref f_fromto) = true)
    (a_place : PySem.W.nsIn K mainGlobals "is_place" = some (some (.ref f_place)))
    (l_place : K.lookup f_place = some ⟨oc_place, od_place, .func (PySem.W.fnOf "is_place" "is_place" (defArgs sPlace) (defBody sPlace) (defScope sPlace) .none kV_place dc_place pm_place an_place cd_place ct_place), sl_place⟩)
    (e_place : PySem.W.codeIn K cd_place "is_place" = true)
    (k_place : PySem.W.keepIn K (.ref f_place) = true)
    (a_pair : PySem.W.nsIn K mainGlobals "_is_pair" = some (some (.ref f_pair)))
    (l_pair : K.lookup f_pair = some ⟨oc_pair, od_pair, .func (PySem.W.fnOf "_is_pair" "_is_pair" (defArgs sPair) (defBody sPair) (defScope sPair) .none kV_pair dc_pair pm_pair an_pair cd_pair ct_pair), sl_pair⟩)
    (e_pair : PySem.W.codeIn K cd_pair "_is_pair" = true)
    (k_pair : PySem.W.keepIn K (.ref f_pair) = true)
    (a_tie : PySem.W.nsIn K mainGlobals "_is_tie" = some (some (.ref f_tie)))
    (l_tie : K.lookup f_tie = some ⟨oc_tie, od_tie, .func (PySem.W.fnOf "_is_tie" "_is_tie" (defArgs sTie) (defBody sTie) (defScope sTie) .none kV_tie dc_tie pm_tie an_tie cd_tie ct_tie), sl_tie⟩)
    (e_tie : PySem.W.codeIn K cd_tie "_is_tie" = true)
    (k_tie : PySem.W.keepIn K (.ref f_tie) = true)
    (a_need : PySem.W.nsIn K mainGlobals "_need_arguments" = some (some (.ref f_need)))
    (l_need : K.lookup f_need = some ⟨oc_need, od_need, .func (PySem.W.fnOf "_need_arguments" "_need_arguments" (defArgs sNeed) (defBody sNeed) (defScope sNeed) .none kV_need dc_need pm_need an_need cd_need ct_need), sl_need⟩)
    (e_need : PySem.W.codeIn K cd_need "_need_arguments" = true)
    (k_need : PySem.W.keepIn K (.ref f_need) = true)
    (a_bundles : PySem.W.nsIn K mainGlobals "_bundles" = some (some (.ref f_bundles)))
    (l_bundles : K.lookup f_bundles = some ⟨oc_bundles, od_bundles, .func (PySem.W.fnOf "_bundles" "_bundles" (defArgs sBundles) (defBody sBundles) (defScope sBundles) .none kV_bundles dc_bundles pm_bundles an_bundles cd_bundles ct_bundles), sl_bundles⟩)
    (e_bundles : PySem.W.codeIn K cd_bundles "_bundles" = true)
    (k_bundles : PySem.W.keepIn K (.ref f_bundles) = true)
    (a_bounds : PySem.W.nsIn K mainGlobals "_need_bounds" = some (some (.ref f_bounds)))
    (l_bounds : K.lookup f_bounds = some ⟨oc_bounds, od_bounds, .func (PySem.W.fnOf "_need_bounds" "_need_bounds" (defArgs sBounds) (defBody sBounds) (defScope sBounds) .none kV_bounds dc_bounds pm_bounds an_bounds cd_bounds ct_bounds), sl_bounds⟩)
    (e_bounds : PySem.W.codeIn K cd_bounds "_need_bounds" = true)
    (k_bounds : PySem.W.keepIn K (.ref f_bounds) = true)
    (a_degrees : PySem.W.nsIn K mainGlobals "_degrees" = some (some (.ref f_degrees)))
    (l_degrees : K.lookup f_degrees = some ⟨oc_degrees, od_degrees, .func (PySem.W.fnOf "_degrees" "_degrees" (defArgs sDegrees) (defBody sDegrees) (defScope sDegrees) .none kV_degrees dc_degrees pm_degrees an_degrees cd_degrees ct_degrees), sl_degrees⟩)
    (e_degrees : PySem.W.codeIn K cd_degrees "_degrees" = true)
    (k_degrees : PySem.W.keepIn K (.ref f_degrees) = true)
    (a_bag : PySem.W.nsIn K mainGlobals "_law_bag" = some (some (.ref f_bag)))
    (l_bag : K.lookup f_bag = some ⟨oc_bag, od_bag, .func (PySem.W.fnOf "_law_bag" "_law_bag" (defArgs sBag) (defBody sBag) (defScope sBag) .none kV_bag dc_bag pm_bag an_bag cd_bag ct_bag), sl_bag⟩)
    (e_bag : PySem.W.codeIn K cd_bag "_law_bag" = true)
    (k_bag : PySem.W.keepIn K (.ref f_bag) = true)
    (a_take : PySem.W.nsIn K mainGlobals "_law_take" = some (some (.ref f_take)))
    (l_take : K.lookup f_take = some ⟨oc_take, od_take, .func (PySem.W.fnOf "_law_take" "_law_take" (defArgs sTake) (defBody sTake) (defScope sTake) .none kV_take dc_take pm_take an_take cd_take ct_take), sl_take⟩)
    (e_take : PySem.W.codeIn K cd_take "_law_take" = true)
    (k_take : PySem.W.keepIn K (.ref f_take) = true)
    (a_one : PySem.W.nsIn K mainGlobals "_law_one" = some (some (.ref f_one)))
    (l_one : K.lookup f_one = some ⟨oc_one, od_one, .func (PySem.W.fnOf "_law_one" "_law_one" (defArgs sOne) (defBody sOne) (defScope sOne) .none kV_one dc_one pm_one an_one cd_one ct_one), sl_one⟩)
    (e_one : PySem.W.codeIn K cd_one "_law_one" = true)
    (k_one : PySem.W.keepIn K (.ref f_one) = true)
    (a_items : PySem.W.nsIn K mainGlobals "_law_items" = some (some (.ref f_items)))
    (l_items : K.lookup f_items = some ⟨oc_items, od_items, .func (PySem.W.fnOf "_law_items" "_law_items" (defArgs sItems) (defBody sItems) (defScope sItems) .none kV_items dc_items pm_items an_items cd_items ct_items), sl_items⟩)
    (e_items : PySem.W.codeIn K cd_items "_law_items" = true)
    (k_items : PySem.W.keepIn K (.ref f_items) = true)
    (a_heard : PySem.W.nsIn K mainGlobals "_law_heard" = some (some (.ref f_heard)))
    (l_heard : K.lookup f_heard = some ⟨oc_heard, od_heard, .func (PySem.W.fnOf "_law_heard" "_law_heard" (defArgs sHeard) (defBody sHeard) (defScope sHeard) .none kV_heard dc_heard pm_heard an_heard cd_heard ct_heard), sl_heard⟩)
    (e_heard : PySem.W.codeIn K cd_heard "_law_heard" = true)
    (k_heard : PySem.W.keepIn K (.ref f_heard) = true)
    (a_bi : PySem.W.nsIn K mainGlobals "_law_bad_item" = some (some (.ref f_bi)))
    (l_bi : K.lookup f_bi = some ⟨oc_bi, od_bi, .func (PySem.W.fnOf "_law_bad_item" "_law_bad_item" (defArgs sBadItem) (defBody sBadItem) (defScope sBadItem) .none kV_bi dc_bi pm_bi an_bi cd_bi ct_bi), sl_bi⟩)
    (e_bi : PySem.W.codeIn K cd_bi "_law_bad_item" = true)
    (k_bi : PySem.W.keepIn K (.ref f_bi) = true)
    (a_bs : PySem.W.nsIn K mainGlobals "_law_bad_size" = some (some (.ref f_bs)))
    (l_bs : K.lookup f_bs = some ⟨oc_bs, od_bs, .func (PySem.W.fnOf "_law_bad_size" "_law_bad_size" (defArgs sBadSize) (defBody sBadSize) (defScope sBadSize) .none kV_bs dc_bs pm_bs an_bs cd_bs ct_bs), sl_bs⟩)
    (e_bs : PySem.W.codeIn K cd_bs "_law_bad_size" = true)
    (k_bs : PySem.W.keepIn K (.ref f_bs) = true)
    (a_bt : PySem.W.nsIn K mainGlobals "_law_bad_ties" = some (some (.ref f_bt)))
    (l_bt : K.lookup f_bt = some ⟨oc_bt, od_bt, .func (PySem.W.fnOf "_law_bad_ties" "_law_bad_ties" (defArgs sBadTies) (defBody sBadTies) (defScope sBadTies) .none kV_bt dc_bt pm_bt an_bt cd_bt ct_bt), sl_bt⟩)
    (e_bt : PySem.W.codeIn K cd_bt "_law_bad_ties" = true)
    (k_bt : PySem.W.keepIn K (.ref f_bt) = true)
    (a_law : PySem.W.nsIn K mainGlobals "law" = some (some (.ref f_law)))
    (l_law : K.lookup f_law = some ⟨oc_law, od_law, .func (PySem.W.fnOf "law" "law" (defArgs sLaw) (defBody sLaw) (defScope sLaw) .none kV_law dc_law pm_law an_law cd_law ct_law), sl_law⟩)
    (e_law : PySem.W.codeIn K cd_law "law" = true)
    (k_law : PySem.W.keepIn K (.ref f_law) = true)
    (aCW : PySem.W.nsIn K mainGlobals "Wrong" = some (some (.ref cW)))
    (xLW : K.lookup cW = some (excClassObj nmW qW cW NW bsW bmW true snW subW abW colW ddW xW yW zW uW vW "ValueError.__new__"))
    (bVW : PySem.HandSPX.refsVE bmW = true)
    (a_xW : PySem.W.findIn K (.ref cW) "__init__" = some (some (.ref f_xW)))
    (l_xW : K.lookup f_xW = some ⟨oc_xW, od_xW, .func (PySem.W.fnOf "__init__" "Wrong.__init__" (defArgs sWr) (defBody sWr) (defScope sWr) .none kV_xW dc_xW pm_xW an_xW cd_xW ct_xW), sl_xW⟩)
    (e_xW : PySem.W.codeIn K cd_xW "Wrong.__init__" = true)
    (k_xW : PySem.W.keepIn K (.ref f_xW) = true)
    (aCI : PySem.W.nsIn K mainGlobals "BadTie" = some (some (.ref cI)))
    (xLI : K.lookup cI = some (excClassObj nmI qI cI NI bsI bmI true snI subI abI colI ddI xI yI zI uI vI "ValueError.__new__"))
    (bVI : PySem.HandSPX.refsVE bmI = true)
    (a_xI : PySem.W.findIn K (.ref cI) "__init__" = some (some (.ref f_xI)))
    (l_xI : K.lookup f_xI = some ⟨oc_xI, od_xI, .func (PySem.W.fnOf "__init__" "BadTie.__init__" (defArgs sBT) (defBody sBT) (defScope sBT) .none kV_xI dc_xI pm_xI an_xI cd_xI ct_xI), sl_xI⟩)
    (e_xI : PySem.W.codeIn K cd_xI "BadTie.__init__" = true)
    (k_xI : PySem.W.keepIn K (.ref f_xI) = true)
    (aCT : PySem.W.nsIn K mainGlobals "TooMany" = some (some (.ref cT)))
    (xLT : K.lookup cT = some (excClassObj nmT qT cT NT bsT bmT true snT subT abT colT ddT xT yT zT uT vT "ValueError.__new__"))
    (bVT : PySem.HandSPX.refsVE bmT = true)
    (a_xT : PySem.W.findIn K (.ref cT) "__init__" = some (some (.ref f_xT)))
    (l_xT : K.lookup f_xT = some ⟨oc_xT, od_xT, .func (PySem.W.fnOf "__init__" "TooMany.__init__" (defArgs sTM) (defBody sTM) (defScope sTM) .none kV_xT dc_xT pm_xT an_xT cd_xT ct_xT), sl_xT⟩)
    (e_xT : PySem.W.codeIn K cd_xT "TooMany.__init__" = true)
    (k_xT : PySem.W.keepIn K (.ref f_xT) = true)
    (a_init : PySem.W.findIn K (.ref C) "__init__" = some (some (.ref f_init)))
    (l_init : K.lookup f_init = some ⟨oc_init, od_init, .func (PySem.W.fnOf "__init__" "Web.__init__" (defArgs sInit) (defBody sInit) (defScope sInit) (.ref T0) kV_init dc_init pm_init an_init cd_init ct_init), sl_init⟩)
    (e_init : PySem.W.codeIn K cd_init "Web.__init__" = true)
    (k_init : PySem.W.keepIn K (.ref f_init) = true)
    (lT : K.lookup T0 = some ⟨oT, dT, .seq #[.ref aE] nT, sT⟩)
    (lE : K.lookup aE = some ⟨oE, dE, .seq #[] nE, sE⟩)
    (cE : oE = .type "tuple")
    (aP : PySem.W.nsIn K mainGlobals "MOST_PLACES" = some (some (.int 60 t60)))
    (aM : PySem.W.nsIn K mainGlobals "MOST_TIES" = some (some (.int 1000000000 t9)))
    (z_isinstance : PySem.W.nsIn K mainGlobals "isinstance" = some none)
    (z_int : PySem.W.nsIn K mainGlobals "int" = some none)
    (z_bool : PySem.W.nsIn K mainGlobals "bool" = some none)
    (z_tuple : PySem.W.nsIn K mainGlobals "tuple" = some none)
    (z_list : PySem.W.nsIn K mainGlobals "list" = some none)
    (z_len : PySem.W.nsIn K mainGlobals "len" = some none)
    (z_enumerate : PySem.W.nsIn K mainGlobals "enumerate" = some none)
    (z_sorted : PySem.W.nsIn K mainGlobals "sorted" = some none)
    (z_min : PySem.W.nsIn K mainGlobals "min" = some none)
    (z_max : PySem.W.nsIn K mainGlobals "max" = some none)
    (z_sum : PySem.W.nsIn K mainGlobals "sum" = some none)
    (z_range : PySem.W.nsIn K mainGlobals "range" = some none)
    (z_any : PySem.W.nsIn K mainGlobals "any" = some none)
    (z_repr : PySem.W.nsIn K mainGlobals "repr" = some none)
    (z_abs : PySem.W.nsIn K mainGlobals "abs" = some none)
    (B : okB K C f_init cW cI cT cB f_xW f_xI f_xT = true) :
    ∃ fd : FuncData, (∀ (s : Shared) (u : Value), BindsTo s fd ⟨[u], []⟩ [("_law_script", u)]) ∧ ∀ base : Heap, K.In base → base.Ns mainGlobals mg → FnC l.prog w K mg base CX0 10 fa fd ["_law_script"] (spLaw K) := by
  have e := hfa.symm.trans (PySem.W.mg_of X G a_law)
  cases e
  subst cE
  have B0 := (and2 B).1
  replace B := (and2 B).2
  have B1 := (and2 B).1
  replace B := (and2 B).2
  have B2 := (and2 B).1
  replace B := (and2 B).2
  have B3 := (and2 B).1
  replace B := (and2 B).2
  have B4 := (and2 B).1
  replace B := (and2 B).2
  have B5 := (and2 B).1
  replace B := (and2 B).2
  have B6 := (and2 B).1
  replace B := (and2 B).2
  have B7 := (and2 B).1
  replace B := (and2 B).2
  have B8 := (and2 B).1
  replace B := (and2 B).2
  have B9 := (and2 B).1
  replace B := (and2 B).2
  have B10 := (and2 B).1
  replace B := (and2 B).2
  have B11 := (and2 B).1
  replace B := (and2 B).2
  have B12 := (and2 B).1
  replace B := (and2 B).2
  have B13 := (and2 B).1
  replace B := (and2 B).2
  have B14 := (and2 B).1
  replace B := (and2 B).2
  have B15 := (and2 B).1
  replace B := (and2 B).2
  have B16 := (and2 B).1
  replace B := (and2 B).2
  have B17 := (and2 B).1
  replace B := (and2 B).2
  have B18 := (and2 B).1
  replace B := (and2 B).2
  have B19 := (and2 B).1
  replace B := (and2 B).2
  have B20 := (and2 B).1
  replace B := (and2 B).2
  have B21 := (and2 B).1
  replace B := (and2 B).2
  have B22 := (and2 B).1
  replace B := (and2 B).2
  have B23 := (and2 B).1
  replace B := (and2 B).2
  have B24 := (and2 B).1
  replace B := (and2 B).2
  have B25 := (and2 B).1
  replace B := (and2 B).2
  have B26 := (and2 B).1
  replace B := (and2 B).2
  have B27 := (and2 B).1
  replace B := (and2 B).2
  have B28 := (and2 B).1
  replace B := (and2 B).2
  have B29 := (and2 B).1
  replace B := (and2 B).2
  have B30 := (and2 B).1
  replace B := (and2 B).2
  have B31 := (and2 B).1
  replace B := (and2 B).2
  have B32 := (and2 B).1
  replace B := (and2 B).2
  have B33 := (and2 B).1
  replace B := (and2 B).2
  have B34 := (and2 B).1
  replace B := (and2 B).2
  have B35 := (and2 B).1
  replace B := (and2 B).2
  have B36 := (and2 B).1
  replace B := (and2 B).2
  have B37 := (and2 B).1
  replace B := (and2 B).2
  have B38 := (and2 B).1
  replace B := (and2 B).2
  have B39 := (and2 B).1
  replace B := (and2 B).2
  have B40 := (and2 B).1
  replace B := (and2 B).2
  have B41 := (and2 B).1
  replace B := (and2 B).2
  have B42 := (and2 B).1
  replace B := (and2 B).2
  have B43 := (and2 B).1
  replace B := (and2 B).2
  have B44 := (and2 B).1
  replace B := (and2 B).2
  have B45 := (and2 B).1
  replace B := (and2 B).2
  have B46 := (and2 B).1
  replace B := (and2 B).2
  have B47 := (and2 B).1
  replace B := (and2 B).2
  have B48 := (and2 B).1
  replace B := (and2 B).2
  have B49 := (and2 B).1
  replace B := (and2 B).2
  have B50 := (and2 B).1
  replace B := (and2 B).2
  have B51 := (and2 B).1
  replace B := (and2 B).2
  have B52 := (and2 B).1
  replace B := (and2 B).2
  have B53 := (and2 B).1
  replace B := (and2 B).2
  have B54 := (and2 B).1
  replace B := (and2 B).2
  have B55 := (and2 B).1
  replace B := (and2 B).2
  have B56 := (and2 B).1
  replace B := (and2 B).2
  have B57 := (and2 B).1
  replace B := (and2 B).2
  have B58 := (and2 B).1
  replace B := (and2 B).2
  have B59 := (and2 B).1
  replace B := (and2 B).2
  have B60 := (and2 B).1
  replace B := (and2 B).2
  have B61 := (and2 B).1
  replace B := (and2 B).2
  have B62 := (and2 B).1
  replace B := (and2 B).2
  have B63 := (and2 B).1
  replace B := (and2 B).2
  have B64 := (and2 B).1
  replace B := (and2 B).2
  have B65 := B
  replace B3 := of_decide_eq_true B3
  replace B4 := of_decide_eq_true B4
  replace B5 := of_decide_eq_true B5
  replace B6 := of_decide_eq_true B6
  replace B7 := of_decide_eq_true B7
  replace B8 := of_decide_eq_true B8
  replace B9 := of_decide_eq_true B9
  replace B10 := of_decide_eq_true B10
  replace B11 := of_decide_eq_true B11
  replace B12 := of_decide_eq_true B12
  replace B13 := of_decide_eq_true B13
  replace B17 := of_decide_eq_true B17
  replace B18 := of_decide_eq_true B18
  replace B19 := of_decide_eq_true B19
  replace B20 := of_decide_eq_true B20
  replace B21 := of_decide_eq_true B21
  replace B22 := of_decide_eq_true B22
  replace B23 := of_decide_eq_true B23
  replace B24 := of_decide_eq_true B24
  replace B25 := of_decide_eq_true B25
  replace B28 := of_decide_eq_true B28
  replace B29 := of_decide_eq_true B29
  replace B30 := of_decide_eq_true B30
  replace B31 := of_decide_eq_true B31
  replace B32 := of_decide_eq_true B32
  replace B33 := of_decide_eq_true B33
  replace B34 := of_decide_eq_true B34
  replace B35 := of_decide_eq_true B35
  replace B36 := of_decide_eq_true B36
  replace B37 := of_decide_eq_true B37
  replace B38 := of_decide_eq_true B38
  replace B39 := of_decide_eq_true B39
  replace B40 := of_decide_eq_true B40
  replace B43 := of_decide_eq_true B43
  replace B44 := of_decide_eq_true B44
  replace B45 := of_decide_eq_true B45
  replace B46 := of_decide_eq_true B46
  replace B47 := of_decide_eq_true B47
  replace B48 := of_decide_eq_true B48
  replace B49 := of_decide_eq_true B49
  replace B50 := of_decide_eq_true B50
  replace B51 := of_decide_eq_true B51
  replace B52 := of_decide_eq_true B52
  replace B53 := of_decide_eq_true B53
  replace B54 := of_decide_eq_true B54
  replace B55 := of_decide_eq_true B55
  replace B58 := of_decide_eq_true B58
  replace B59 := of_decide_eq_true B59
  replace B60 := of_decide_eq_true B60
  replace B61 := of_decide_eq_true B61
  replace B62 := of_decide_eq_true B62
  replace B63 := of_decide_eq_true B63
  replace B64 := of_decide_eq_true B64
  replace B65 := of_decide_eq_true B65
  have F_whole := fun_mk (st := sWhole) l_whole e_whole k_whole
  have B_whole := F_whole.binds (ps := ["thing"]) (fun _ _ _ _ _ _ us hl => match us, hl with | [_], _ => rfl)
  have m_whole := PySem.W.mg_of X G a_whole
  have F_fromto := fun_mk (st := sFromTo) l_fromto e_fromto k_fromto
  have B_fromto := F_fromto.binds (ps := ["thing", "low", "high"]) (fun _ _ _ _ _ _ us hl => match us, hl with | [_, _, _], _ => rfl)
  have m_fromto := PySem.W.mg_of X G a_fromto
  have F_place := fun_mk (st := sPlace) l_place e_place k_place
  have B_place := F_place.binds (ps := ["thing", "size"]) (fun _ _ _ _ _ _ us hl => match us, hl with | [_, _], _ => rfl)
  have m_place := PySem.W.mg_of X G a_place
  have F_pair := fun_mk (st := sPair) l_pair e_pair k_pair
  have B_pair := F_pair.binds (ps := ["thing", "size"]) (fun _ _ _ _ _ _ us hl => match us, hl with | [_, _], _ => rfl)
  have m_pair := PySem.W.mg_of X G a_pair
  have F_tie := fun_mk (st := sTie) l_tie e_tie k_tie
  have B_tie := F_tie.binds (ps := ["thing", "size"]) (fun _ _ _ _ _ _ us hl => match us, hl with | [_, _], _ => rfl)
  have m_tie := PySem.W.mg_of X G a_tie
  have F_need := fun_mk (st := sNeed) l_need e_need k_need
  have B_need := F_need.binds (ps := ["size", "ties"]) (fun _ _ _ _ _ _ us hl => match us, hl with | [_, _], _ => rfl)
  have m_need := PySem.W.mg_of X G a_need
  have F_bundles := fun_mk (st := sBundles) l_bundles e_bundles k_bundles
  have B_bundles := F_bundles.binds (ps := ["ties"]) (fun _ _ _ _ _ _ us hl => match us, hl with | [_], _ => rfl)
  have m_bundles := PySem.W.mg_of X G a_bundles
  have F_bounds := fun_mk (st := sBounds) l_bounds e_bounds k_bounds
  have B_bounds := F_bounds.binds (ps := ["bundles"]) (fun _ _ _ _ _ _ us hl => match us, hl with | [_], _ => rfl)
  have m_bounds := PySem.W.mg_of X G a_bounds
  have F_degrees := fun_mk (st := sDegrees) l_degrees e_degrees k_degrees
  have B_degrees := F_degrees.binds (ps := ["size", "numbers"]) (fun _ _ _ _ _ _ us hl => match us, hl with | [_, _], _ => rfl)
  have m_degrees := PySem.W.mg_of X G a_degrees
  have F_bag := fun_mk (st := sBag) l_bag e_bag k_bag
  have B_bag := F_bag.binds (ps := ["_law_script"]) (fun _ _ _ _ _ _ us hl => match us, hl with | [_], _ => rfl)
  have m_bag := PySem.W.mg_of X G a_bag
  have F_take := fun_mk (st := sTake) l_take e_take k_take
  have B_take := F_take.binds (ps := ["_law_bag_here", "_law_many"]) (fun _ _ _ _ _ _ us hl => match us, hl with | [_, _], _ => rfl)
  have m_take := PySem.W.mg_of X G a_take
  have F_one := fun_mk (st := sOne) l_one e_one k_one
  have B_one := F_one.binds (ps := ["_law_bag_here", "_law_menu"]) (fun _ _ _ _ _ _ us hl => match us, hl with | [_, _], _ => rfl)
  have m_one := PySem.W.mg_of X G a_one
  have F_items := fun_mk (st := sItems) l_items e_items k_items
  have B_items := F_items.binds (ps := ["_law_bag_here", "_law_size", "_law_many"]) (fun _ _ _ _ _ _ us hl => match us, hl with | [_, _, _], _ => rfl)
  have m_items := PySem.W.mg_of X G a_items
  have F_heard := fun_mk (st := sHeard) l_heard e_heard k_heard
  have B_heard := F_heard.binds (ps := ["_law_size", "_law_ties"]) (fun _ _ _ _ _ _ us hl => match us, hl with | [_, _], _ => rfl)
  have m_heard := PySem.W.mg_of X G a_heard
  have F_bi := fun_mk (st := sBadItem) l_bi e_bi k_bi
  have B_bi := F_bi.binds (ps := ["_law_bag_here", "_law_size"]) (fun _ _ _ _ _ _ us hl => match us, hl with | [_, _], _ => rfl)
  have m_bi := PySem.W.mg_of X G a_bi
  have F_bs := fun_mk (st := sBadSize) l_bs e_bs k_bs
  have B_bs := F_bs.binds (ps := ["_law_bag_here"]) (fun _ _ _ _ _ _ us hl => match us, hl with | [_], _ => rfl)
  have m_bs := PySem.W.mg_of X G a_bs
  have F_bt := fun_mk (st := sBadTies) l_bt e_bt k_bt
  have B_bt := F_bt.binds (ps := ["_law_bag_here"]) (fun _ _ _ _ _ _ us hl => match us, hl with | [_], _ => rfl)
  have m_bt := PySem.W.mg_of X G a_bt
  have F_law := fun_mk (st := sLaw) l_law e_law k_law
  have F_xW := fun_mk (st := sWr) l_xW e_xW k_xW
  have B_xW := F_xW.binds (ps := ["self", "place"]) (fun _ _ _ _ _ _ us hl => match us, hl with | [_, _], _ => rfl)
  have F_xI := fun_mk (st := sBT) l_xI e_xI k_xI
  have B_xI := F_xI.binds (ps := ["self", "at"]) (fun _ _ _ _ _ _ us hl => match us, hl with | [_, _], _ => rfl)
  have F_xT := fun_mk (st := sTM) l_xT e_xT k_xT
  have B_xT := F_xT.binds (ps := ["self", "limit"]) (fun _ _ _ _ _ _ us hl => match us, hl with | [_, _], _ => rfl)
  have m_isinstance := PySem.W.mg_none_of X G z_isinstance
  have m_int := PySem.W.mg_none_of X G z_int
  have m_bool := PySem.W.mg_none_of X G z_bool
  have m_tuple := PySem.W.mg_none_of X G z_tuple
  have m_list := PySem.W.mg_none_of X G z_list
  have m_len := PySem.W.mg_none_of X G z_len
  have m_enumerate := PySem.W.mg_none_of X G z_enumerate
  have m_sorted := PySem.W.mg_none_of X G z_sorted
  have m_min := PySem.W.mg_none_of X G z_min
  have m_max := PySem.W.mg_none_of X G z_max
  have m_sum := PySem.W.mg_none_of X G z_sum
  have m_range := PySem.W.mg_none_of X G z_range
  have m_any := PySem.W.mg_none_of X G z_any
  have m_repr := PySem.W.mg_none_of X G z_repr
  have m_abs := PySem.W.mg_none_of X G z_abs
  have OW : OexC K cW := ⟨⟨_, _, _, _, _, _, _, _, _, _, _, _, _, _, _, xLW, bVW⟩, B30, B24, B25, B26⟩
  have EW : ErrC K mg "Wrong" cW f_xW := ⟨PySem.W.mg_of X G aCW, OW, a_xW, B31⟩
  have XW : ErrX K cW cB := ⟨⟨B21, B22, B24, B27⟩, ⟨B21, B22, B24, B27, B23, B10, B11, B28⟩, B29⟩
  have OI : OexC K cI := ⟨⟨_, _, _, _, _, _, _, _, _, _, _, _, _, _, _, xLI, bVI⟩, B45, B39, B40, B41⟩
  have EI : ErrC K mg "BadTie" cI f_xI := ⟨PySem.W.mg_of X G aCI, OI, a_xI, B46⟩
  have XI : ErrX K cI cB := ⟨⟨B36, B37, B39, B42⟩, ⟨B36, B37, B39, B42, B38, B10, B11, B43⟩, B44⟩
  have OT : OexC K cT := ⟨⟨_, _, _, _, _, _, _, _, _, _, _, _, _, _, _, xLT, bVT⟩, B60, B54, B55, B56⟩
  have ET : ErrC K mg "TooMany" cT f_xT := ⟨PySem.W.mg_of X G aCT, OT, a_xT, B61⟩
  have XT : ErrX K cT cB := ⟨⟨B51, B52, B54, B57⟩, ⟨B51, B52, B54, B57, B53, B10, B11, B58⟩, B59⟩
  have mP : ∃ t, mg "MOST_PLACES" = some (.int 60 t) := ⟨_, PySem.W.mg_of X G aP⟩
  have mM : ∃ t, mg "MOST_TIES" = some (.int 1000000000 t) := ⟨_, PySem.W.mg_of X G aM⟩
  have HW : HeW K mg cW cI cT cB := { gW := EW.g, gI := EI.g, gT := ET.g, gB := PySem.W.mg_of X G aB, xW := XW, xI := XI, xT := XT, ww := B33, wi := B34, wt := B35, iw := B48, ii := B49, it := B50, tw := B63, ti := B64, tt := B65, nW := B32, nI := B47, nT := B62, misi := m_isinstance }
  have T : TxtW K mg C := { cl := ⟨B0, B1, B2, B3⟩, n1 := B4, n2 := B5, n3 := B6, n4 := B7, n5 := B8, msum := m_sum }
  have GK : KindW K mg C := { ty := fun H a dx fs e => .base (.ins e T.cl B9 B10 B11 B12), own := B13, gW := PySem.W.mg_of X G aC, mi := m_isinstance }
  have N : Nms mg := { mt := m_tuple, mr := m_repr, mra := m_range, ml := m_len }
  have F_init : L2.FunD K "__init__" "Web.__init__" (defArgs sInit) (defBody sInit) (defScope sInit) [.ref aE] [] f_init (PySem.W.fnOf "__init__" "Web.__init__" (defArgs sInit) (defBody sInit) (defScope sInit) (.ref T0) kV_init dc_init pm_init an_init cd_init ct_init) :=
    ⟨⟨_, _, _, _, _, _, _, _, _, _, rfl, l_init, e_init, .inr ⟨by simp, T0, _, [.ref aE], nT, rfl, lT, rfl, .cons rfl .nil⟩, .inl rfl⟩, k_init⟩
  have b0 : Binds K (PySem.W.fnOf "__init__" "Web.__init__" (defArgs sInit) (defBody sInit) (defScope sInit) (.ref T0) kV_init dc_init pm_init an_init cd_init ct_init) ["self", "size", "ties"] [] := by
    obtain ⟨ds, hv, hb⟩ := F_init.binds1 (ps := ["self", "size", "ties"]) 3 1 (by simp) rfl (fun _ _ _ _ _ _ _ us its hl hi => match us, hl, its, hi with | [_, _, _], _, [_], _ => ⟨_, rfl, rfl⟩)
    cases hv
    exact hb
  have b1 : Binds K (PySem.W.fnOf "__init__" "Web.__init__" (defArgs sInit) (defBody sInit) (defScope sInit) (.ref T0) kV_init dc_init pm_init an_init cd_init ct_init) ["self", "size", "ties"] [.ref aE] := by
    obtain ⟨ds, hv, hb⟩ := F_init.binds1 (ps := ["self", "size", "ties"]) 2 0 (by simp) rfl (fun _ _ _ _ _ _ _ us its hl hi => match us, hl, its, hi with | [_, _], _, [_], _ => ⟨_, rfl, rfl⟩)
    cases hv with
    | cons r t => cases t; cases (show _ = Value.ref aE from r); exact hb
  have hE : ∀ H, SqT K H aE [] := fun H => .inr ⟨_, #[], nE, lE, rfl, rfl, by decide, .nil⟩
  refine ⟨PySem.W.fnOf "law" "law" (defArgs sLaw) (defBody sLaw) (defScope sLaw) .none kV_law dc_law pm_law an_law cd_law ct_law, fun s u => .of_eq rfl, fun base _ _ => ?_⟩
  have G_whole : FnOk l.prog w K mg base CX0 1 f_whole _ ["thing"] (spWhole K) := ok_whole (k := 0) F_whole m_isinstance m_int m_bool
  have G_fromto : FnOk l.prog w K mg base CX0 2 f_fromto _ ["thing", "low", "high"] (spFromTo K) := ok_fromTo (k := 1) F_fromto G_whole m_whole k_whole B_whole
  have G_place : FnOk l.prog w K mg base CX0 3 f_place _ ["thing", "size"] (spPlace K) := ok_place (k := 2) F_place G_fromto m_fromto k_fromto B_fromto
  have G_pair : FnOk l.prog w K mg base CX0 4 f_pair _ ["thing", "size"] (spPair K) := ok_pair (k := 3) F_pair G_place m_place k_place B_place m_isinstance m_tuple m_len
  have G_tie : FnOk l.prog w K mg base CX0 5 f_tie _ ["thing", "size"] (spTie K) := ok_tie (k := 4) F_tie G_pair m_pair k_pair B_pair (G_fromto.mono (by decide)) m_fromto k_fromto B_fromto m_isinstance m_tuple m_len mM
  have A_tie : FnOk l.prog w K mg base CX0 5 f_tie _ ["thing", "size"] (spTieA K) := ok_tieA (k := 4) F_tie G_pair m_pair k_pair B_pair (G_fromto.mono (by decide)) m_fromto k_fromto B_fromto m_isinstance m_tuple m_len mM
  have G_need : FnOk l.prog w K mg base CX0 6 f_need _ ["size", "ties"] (spNeed K) := ok_need (k := 5) F_need G_tie m_tie k_tie B_tie (G_fromto.mono (by decide)) m_fromto k_fromto B_fromto m_isinstance m_tuple m_list m_enumerate mP
  have G_bounds : FnOk l.prog w K mg base CX0 1 f_bounds _ ["bundles"] (spBounds K) := ok_bounds (k := 0) F_bounds m_any mM
  have G_bundles : FnOk l.prog w K mg base CX0 2 f_bundles _ ["ties"] (spBundles K) := ok_bundles (k := 1) F_bundles G_bounds m_bounds k_bounds B_bounds m_sorted m_min m_max m_tuple
  have G_degrees : FnOk l.prog w K mg base CX0 1 f_degrees _ ["size", "numbers"] spDegrees := ok_degrees (k := 0) F_degrees m_tuple m_sum m_range
  have G_init : FnOk l.prog w K mg base CX0 7 f_init _ ["self", "size", "ties"] (spInit K C) :=
    ok_init (k := 6) F_init T G_need m_need k_need B_need (G_bundles.mono (by decide)) m_bundles k_bundles B_bundles (G_degrees.mono (by decide)) m_degrees k_degrees B_degrees
  have I_W : ErrI l.prog w K mg base f_xW _ ["self", "place"] (spI1 cW "place") := ⟨ok_iWr F_xW OW B32, B_xW⟩
  have I_I : ErrI l.prog w K mg base f_xI _ ["self", "at"] (spI1 cI "at") := ⟨ok_iBT F_xI OI B47, B_xI⟩
  have I_T : ErrI l.prog w K mg base f_xT _ ["self", "limit"] (spI1 cT "limit") := ⟨ok_iTM F_xT OT B62, B_xT⟩
  have R_need : FnOk l.prog w K mg base (L2N.CX l.prog w) 6 f_need _ ["size", "ties"] (spNeedR K cW cI) := ok_needR (k := 3) F_need A_tie m_tie k_tie B_tie (G_fromto.mono (by decide)) m_fromto k_fromto B_fromto EW I_W EI I_I m_isinstance m_tuple m_list m_enumerate mP
  have R_bounds : FnOk l.prog w K mg base (L2N.CX l.prog w) 3 f_bounds _ ["bundles"] (spBoundsR K cT) := ok_boundsR (k := 0) F_bounds ET I_T m_any mM
  have R_bundles : FnOk l.prog w K mg base (L2N.CX l.prog w) 4 f_bundles _ ["ties"] (spBundlesR K cT) := ok_bundlesR (k := 3) F_bundles R_bounds m_bounds k_bounds B_bounds m_sorted m_min m_max m_tuple
  have R_init : FnOk l.prog w K mg base (L2N.CX l.prog w) 7 f_init _ ["self", "size", "ties"] (spInitA K C cW cI cT) :=
    ok_initA (k := 6) F_init T R_need m_need k_need B_need (R_bundles.mono (by decide)) m_bundles k_bundles B_bundles (G_degrees.mono (by decide)) m_degrees k_degrees B_degrees
  have MA : MakA l.prog w K mg base C cW cI cT 7 f_init _ := { M := ⟨B14, a_init, B15, B16⟩, F := R_init, b0 := b0, g := GK.gW }
  have MW : MakW l.prog w K mg base C 7 f_init _ aE := { M := ⟨B14, a_init, B15, B16⟩, F := G_init, b1 := b1, e := hE, g := GK.gW, ni := B17, nb := B18 }
  have NL : NoLT K C := ⟨B19, B20⟩
  have G_heard : FnOk l.prog w K mg base CX0 9 f_heard _ ["_law_size", "_law_ties"] (spHeard K) := ok_heard (k := 7) F_heard T HW MA
  have G_bag : FnOk l.prog w K mg base CX0 1 f_bag _ ["_law_script"] (spBag K) := ok_bag (k := 0) F_bag m_abs
  have G_take : FnOk l.prog w K mg base CX0 1 f_take _ ["_law_bag_here", "_law_many"] spTake := ok_take (k := 0) F_take m_len m_int
  have G_one : FnOk l.prog w K mg base CX0 2 f_one _ ["_law_bag_here", "_law_menu"] spOne := ok_one (k := 1) F_one G_take m_take k_take B_take m_len
  have G_items : FnOk l.prog w K mg base CX0 2 f_items _ ["_law_bag_here", "_law_size", "_law_many"] (spItems K) := ok_items (k := 1) F_items G_take m_take k_take B_take m_min m_max m_range m_int
  have G_bi : FnOk l.prog w K mg base CX0 3 f_bi _ ["_law_bag_here", "_law_size"] (spBadItem K) := ok_bad_item (k := 2) F_bi (G_take.mono (by decide)) m_take k_take B_take G_one m_one k_one B_one
  have G_bs : FnOk l.prog w K mg base CX0 9 f_bs _ ["_law_bag_here"] (spBadSize K) := ok_bad_size (k := 7) F_bs GK MW ⟨G_one.mono (by decide), m_one, k_one, B_one⟩
  have G_bt : FnOk l.prog w K mg base CX0 9 f_bt _ ["_law_bag_here"] (spBadTies K) := ok_bad_ties (k := 7) F_bt GK NL MW ⟨G_one.mono (by decide), m_one, k_one, B_one⟩
  exact ok_law (k := 8) F_law N ⟨G_bag.mono (by decide), m_bag, k_bag, B_bag⟩ ⟨G_take.mono (by decide), m_take, k_take, B_take⟩ ⟨G_items.mono (by decide), m_items, k_items, B_items⟩ ⟨G_heard, m_heard, k_heard, B_heard⟩
    ⟨G_bi.mono (by decide), m_bi, k_bi, B_bi⟩ ⟨G_bs, m_bs, k_bs, B_bs⟩ ⟨G_bt, m_bt, k_bt, B_bt⟩
end T22
/-! The end of a law, the guards known. -/
namespace Wk
open PySem PySem.Spec PyProof.Rows L2
theorem law_callC {P : Program} {w : World} {K : PySem.W.Frag} {mg mb : Str → Option Value} {k : Nat} {fa a : Addr} {fd : FuncData} {x : Str} {sp : Sp} {s₁ : Shared} {vs : List Value} {ns : List Int}
    (KX : K.In s₁.heap) (hns : s₁.heap.Ns mainGlobals mg) (hb : s₁.heap.Ns builtinsNs mb) (hbb : ∀ x : Str, x ≠ "__name__" → mb x = bootBuiltins x) (hlim : s₁.heap.NoLimit) (hg : s₁.gens = #[])
    (ha : s₁.heap.get? a = some { cls := .type "list", data := .seq vs.toArray }) (hi : IntsAre vs ns) (hl : ns.length ≤ sizeLine) (hr : Room k callerA)
    (F : ∀ base : Heap, K.In base → base.Ns mainGlobals mg → FnC P w K mg base CX0 k fa fd [x] sp) (hbind : ∀ (s : Shared) (u : Value), BindsTo s fd ⟨[u], []⟩ [(x, u)])
    (hsp : ∀ H : Hp, Only H → SqL K H a (ns.map V.int) → sp [.ref a] H (fun v _ => v = .bl true) fun _ _ _ => False) :
    codeAny (model P w) callerA (.call (.ref fa) ⟨[.ref a], []⟩) (fun r s' => r = .ok (.ret (.bool true)) ∧ OldK s₁.heap s'.heap ∧ s'.os = s₁.os ∧ AllBare s'.gens) s₁ := by
  have rints := vals_ints hi
  have hlen := hi.length
  have main : ∀ H : Hp, Only H → SqL K H a (ns.map V.int) → HOk P w H s₁.heap → (∀ b, H b ≠ none → b = a) → (H a ≠ none → K.lookup a = none) →
      codeAny (model P w) callerA (.call (.ref fa) ⟨[.ref a], []⟩) (fun r s' => r = .ok (.ret (.bool true)) ∧ OldK s₁.heap s'.heap ∧ s'.os = s₁.os ∧ AllBare s'.gens) s₁ := by
    intro H hO hS hok hA hK
    have free : ∀ {b : Addr} {o : Obj} {es : Array DictEntry} {ep : Nat}, s₁.heap.get? b = some o → o.data = .dict es ep → H b = none := by
      intro b o es ep e d
      cases q : H b with
      | none => rfl
      | some u =>
        have hba : b = a := hA b (by rw [q]; exact fun z => nomatch z)
        rw [hba, ha] at e
        cases e
        exact nomatch (show Data.seq vs.toArray _ = Data.dict es ep from d)
    have nsH : ∀ {b : Addr} {m : Str → Option Value}, s₁.heap.Ns b m → (hidT s₁.heap H).Ns b m := by
      rintro b m ⟨o, es, ep, e, d, r⟩
      exact ⟨o, es, ep, hidT_get e (free e d), d, r⟩
    have kinH : K.In (hidT s₁.heap H) := by
      intro b o e
      refine hidT_get (KX b o e) ?_
      cases q : H b with
      | none => rfl
      | some u =>
        have hba : b = a := hA b (by rw [q]; exact fun z => nomatch z)
        rw [hba] at e q
        rw [hK (by rw [q]; exact fun z => nomatch z)] at e
        exact nomatch e
    have hM : Mod K mg (hidT s₁.heap H) := ⟨kinH, nsH hns, ⟨mb, nsH hb, hbb⟩, let ⟨mc, h1, h2⟩ := hlim; ⟨mc, nsH h1, h2⟩⟩
    have e0 : Env0 P w K mg (hidT s₁.heap H) callerA [] s₁ H := ⟨rfl, hM, fun b o e => of_hidT e, Nat.le_of_eq (hidT_size _ _), trivial, (fun b hb => nomatch (show b ∈ ([] : List Addr) from hb)), hok, .of_eq hg⟩
    refine codeAny_mono ((F _ kinH (nsH hns)).run callerA [] s₁ H ⟨[.ref a], []⟩ [.ref a] [.ref a] _ _ hr rfl e0 (hbind s₁ (.ref a)) (.cons rfl .nil) (hsp H hO hS)) (fun r s' h => ?_)
    match r, h with
    | .ok (.ret u), h =>
      obtain ⟨v, H', os, bare, un, hok', r', q⟩ := h
      have q' : v = .bl true := q
      subst q'
      obtain rfl : u = Value.bool true := r'
      refine ⟨rfl, OldK.of_keep (fun b o e => ?_), os, bare⟩
      cases q : H b with
      | none => exact un.keep b o e q (fun z => nomatch (show b ∈ ([] : List Addr) from z)) (fun z => nomatch z)
      | some u =>
        rcases hO b with z | ⟨ob, xs, z⟩
        · rw [q] at z; exact nomatch z
        · obtain ⟨e1, _⟩ := hok b _ z
          obtain ⟨e2, _⟩ := hok' b _ (un.frzs b ob _ z)
          rw [e] at e1
          rw [Option.some.inj e1]; exact e2
  cases hk : K.lookup a with
  | some o =>
    have e := (KX a o hk).symm.trans ha
    cases e
    exact main (fun _ => none) (fun _ => .inl rfl) (.inr ⟨_, vs.toArray, _, hk, rfl, rfl, rfl, by rw [List.size_toArray, hlen]; exact hl, by simpa using rints⟩) (fun b u z => nomatch (show (none : Option HO) = some u from z)) (fun b z => absurd rfl z) (fun z => absurd rfl z)
  | none =>
    refine main (fun b => if b = a then some (.frz { cls := .type "list", data := .seq vs.toArray } (.lst (ns.map V.int))) else none) (fun b => ?_) (.inl (.inr ⟨{ cls := .type "list", data := .seq vs.toArray }, if_pos rfl⟩)) (fun b u z => ?_) (fun b z => ?_) (fun _ => hk)
    · by_cases hba : b = a
      · exact .inr ⟨_, _, if_pos hba⟩
      · exact .inl (if_neg hba)
    · by_cases hba : b = a
      · have z' := (if_pos hba).symm.trans z
        cases z'
        rw [hba]
        exact ⟨ha, by rw [List.length_map]; exact hl, vs, _, rints, ha⟩
      · exact nomatch (if_neg hba).symm.trans z
    · by_cases hba : b = a
      · exact hba
      · exact absurd (if_neg hba) z
theorem walk_ofC {l : PySem.W.OpenLaw} {n k : Nat} {q : Program} {loose : List Str} {XP : (Str → Option Value) → Heap → Prop} {YP : World → Heap → Prop} {d : DefRec} {K : Params → PySem.W.Frag} {sp : World → Sp} {x : Str}
    (hn : l.most = some n) (hn2 : n ≤ sizeLine) (hdf : d.params.defaults = []) (hr : Room k callerA) (hY : ∀ (w : World) (h : Heap), YP w h → (K w.params).In h)
    (F : ∀ (w : World) (mg : Str → Option Value) (fa : Addr) (h : Heap), (K w.params).In h → h.Ns mainGlobals mg → mg d.name = some (.ref fa) →
      ∃ fd : FuncData, (∀ (s : Shared) (u : Value), BindsTo s fd ⟨[u], []⟩ [(x, u)]) ∧ ∀ base : Heap, (K w.params).In base → base.Ns mainGlobals mg → FnC l.prog w (K w.params) mg base CX0 k fa fd [x] (sp w))
    (hsp : ∀ (w : World) (H : Hp) (a : Addr) (ns : List Int), ns.length ≤ n → Only H → SqL (K w.params) H a (ns.map V.int) → sp w [.ref a] H (fun v _ => v = .bl true) fun _ _ _ => False) :
    PySem.W.WalkO q loose XP YP l.row.toRowW d [] (fun f vs => PySem.call f vs) := by
  refine Att.attach_call hn hdf (fun w s₀ s₁ mg mb fa o pm cd doc a vs ns G Y ho hd hcd hmg hobj hints hlen hg => ?_)
  have KX := hY w _ Y
  obtain ⟨fd, hb, hF⟩ := F w mg fa _ KX G.T.g hmg
  exact law_callC KX G.T.g G.T.b G.T.builtins G.T.nolimit hg hobj hints (Nat.le_trans hlen hn2) hr hF hb (fun H hO hS => hsp w H a ns hlen hO hS)
end Wk
open PySem PySem.W PyProof.Rows
set_option maxRecDepth 100000 in
set_option maxHeartbeats 0 in
theorem PySem.Challenge.cw_contentties_k22_webs_refused_holds : PySem.Challenge.rw_contentties_k22_webs_refused.Holds := by
  w_on; o_law; k_head; (case hw => w_witness2)
  k_fill
  refine Wk.walk_ofC (l := PySem.Challenge.rw_contentties_k22_webs_refused) (n := 63) (k := 10) (x := "_law_script") rfl (by decide) rfl ⟨rfl, by decide, by decide⟩ (fun w h Y => PySem.W.kIn_of Y) ?F (sp := fun w => T22.spLaw _) (fun _ _ a ns hl _ hS => ⟨a, ns, rfl, hS, hl, fun _ => rfl⟩)
  case F =>
    intro w mg fa h KX G hmg
    refine' T22.all_mk KX G hmg ?aC ?aB ?a_whole ?l_whole ?e_whole ?k_whole ?a_fromto ?l_fromto ?e_fromto ?k_fromto ?a_place ?l_place ?e_place ?k_place ?a_pair ?l_pair ?e_pair ?k_pair ?a_tie ?l_tie ?e_tie ?k_tie ?a_need ?l_need ?e_need ?k_need ?a_bundles ?l_bundles ?e_bundles ?k_bundles ?a_bounds ?l_bounds ?e_bounds ?k_bounds ?a_degrees ?l_degrees ?e_degrees ?k_degrees ?a_bag ?l_bag ?e_bag ?k_bag ?a_take ?l_take ?e_take ?k_take ?a_one ?l_one ?e_one ?k_one ?a_items ?l_items ?e_items ?k_items ?a_heard ?l_heard ?e_heard ?k_heard ?a_bi ?l_bi ?e_bi ?k_bi ?a_bs ?l_bs ?e_bs ?k_bs ?a_bt ?l_bt ?e_bt ?k_bt ?a_law ?l_law ?e_law ?k_law ?aCW ?xLW ?bVW ?a_xW ?l_xW ?e_xW ?k_xW ?aCI ?xLI ?bVI ?a_xI ?l_xI ?e_xI ?k_xI ?aCT ?xLT ?bVT ?a_xT ?l_xT ?e_xT ?k_xT ?a_init ?l_init ?e_init ?k_init ?lT ?lE ?cE ?aP ?aM ?z_isinstance ?z_int ?z_bool ?z_tuple ?z_list ?z_len ?z_enumerate ?z_sorted ?z_min ?z_max ?z_sum ?z_range ?z_any ?z_repr ?z_abs ?B
    (case aC => k_is)
    (case aB => k_is)
    (case a_whole => k_is)
    (case l_whole => k_is)
    (case e_whole => k_is)
    (case k_whole => k_is)
    (case a_fromto => k_is)
    (case l_fromto => k_is)
    (case e_fromto => k_is)
    (case k_fromto => k_is)
    (case a_place => k_is)
    (case l_place => k_is)
    (case e_place => k_is)
    (case k_place => k_is)
    (case a_pair => k_is)
    (case l_pair => k_is)
    (case e_pair => k_is)
    (case k_pair => k_is)
    (case a_tie => k_is)
    (case l_tie => k_is)
    (case e_tie => k_is)
    (case k_tie => k_is)
    (case a_need => k_is)
    (case l_need => k_is)
    (case e_need => k_is)
    (case k_need => k_is)
    (case a_bundles => k_is)
    (case l_bundles => k_is)
    (case e_bundles => k_is)
    (case k_bundles => k_is)
    (case a_bounds => k_is)
    (case l_bounds => k_is)
    (case e_bounds => k_is)
    (case k_bounds => k_is)
    (case a_degrees => k_is)
    (case l_degrees => k_is)
    (case e_degrees => k_is)
    (case k_degrees => k_is)
    (case a_bag => k_is)
    (case l_bag => k_is)
    (case e_bag => k_is)
    (case k_bag => k_is)
    (case a_take => k_is)
    (case l_take => k_is)
    (case e_take => k_is)
    (case k_take => k_is)
    (case a_one => k_is)
    (case l_one => k_is)
    (case e_one => k_is)
    (case k_one => k_is)
    (case a_items => k_is)
    (case l_items => k_is)
    (case e_items => k_is)
    (case k_items => k_is)
    (case a_heard => k_is)
    (case l_heard => k_is)
    (case e_heard => k_is)
    (case k_heard => k_is)
    (case a_bi => k_is)
    (case l_bi => k_is)
    (case e_bi => k_is)
    (case k_bi => k_is)
    (case a_bs => k_is)
    (case l_bs => k_is)
    (case e_bs => k_is)
    (case k_bs => k_is)
    (case a_bt => k_is)
    (case l_bt => k_is)
    (case e_bt => k_is)
    (case k_bt => k_is)
    (case a_law => k_is)
    (case l_law => k_is)
    (case e_law => k_is)
    (case k_law => k_is)
    (case aCW => k_is)
    (case xLW => k_is)
    (case bVW => rfl)
    (case a_xW => k_is)
    (case l_xW => k_is)
    (case e_xW => k_is)
    (case k_xW => k_is)
    (case aCI => k_is)
    (case xLI => k_is)
    (case bVI => rfl)
    (case a_xI => k_is)
    (case l_xI => k_is)
    (case e_xI => k_is)
    (case k_xI => k_is)
    (case aCT => k_is)
    (case xLT => k_is)
    (case bVT => rfl)
    (case a_xT => k_is)
    (case l_xT => k_is)
    (case e_xT => k_is)
    (case k_xT => k_is)
    (case a_init => k_is)
    (case l_init => k_is)
    (case e_init => k_is)
    (case k_init => k_is)
    (case lT => k_is)
    (case lE => k_is)
    (case cE => rfl)
    (case aP => k_is)
    (case aM => k_is)
    (case z_isinstance => k_is)
    (case z_int => k_is)
    (case z_bool => k_is)
    (case z_tuple => k_is)
    (case z_list => k_is)
    (case z_len => k_is)
    (case z_enumerate => k_is)
    (case z_sorted => k_is)
    (case z_min => k_is)
    (case z_max => k_is)
    (case z_sum => k_is)
    (case z_range => k_is)
    (case z_any => k_is)
    (case z_repr => k_is)
    (case z_abs => k_is)
    (case B => kernel_rfl)
