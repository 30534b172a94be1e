import PyProof.Rows.All
import Wide.All
import OpenK.AllK
import Wide.FinOn
import HandS.ForMost
import HandS.ForExc
import HandS.IsInst
import HandS.MakeKwOnly
import HandS.ClsMeth
import HandS.Conv
import HandS.Codes
import HandS.Walk
import HandS.Style
import HandS.Flow
import HandS.Wide
import HandS.OwnEq
import HandS.OwnIter
import HandS.IterVal
import KE.KOwnIter
import PyProof.FactsAll.tuple_iterator_1
import HandS.Deep
import HandS.SortRule
import KE.GoesMore
import KE.GoesEnum
import KE.KLam
import KE.DataMinKey
import HandS.Base
import HandS.Call
import HandS.List
import HandS.Comp
import HandS.Lambda
import HandS.Nested
import HandS.Keys
import HandS.SortInts
import HandS.TupAny
import KE.KNestM
import HandS.EndTab
import HandS.Rev
import PySem.Challenge.RW_heaprows_k09_whole_anew
set_option Elab.async false
set_option maxRecDepth 100000
set_option Elab.async false
set_option linter.all false
set_option maxRecDepth 100000
set_option maxHeartbeats 2000000
namespace Tw
open PySem PySem.Spec PyProof.Rows L2

/-! own rules: an instance with dunder methods -/
/-- a dunder method of the class at C, its def at f -/
structure Dn (K : PySem.W.Frag) (C : Addr) (m : Str) (f : Addr) : Prop where
  at_ : PySem.W.findIn K (.ref C) m = some (some (.ref f))
  fn : PySem.W.isFn K (.ref f) = true
  fi : PySem.W.fnIn K f = true


section
variable {X : Cx} {CX : CXT} {k n : Nat} {f C : Addr} {fd : FuncData} {ps : List Str} {sp : Sp} {E : XK} {o e : Expr} {pos : Pos} {ta tb : TE} {A1 : Around}
  {pins : List (Addr × Obj)} {σ : L2.St} {H : Hp} {s : Shared} {Q : VK}
theorem Sub.env0 (sb : Sub X n A1) (I : Inv X pins σ H s) : Env0 X.prog X.w X.K X.mg X.base A1 X.stack s H := by
  have q := I.env0
  exact ⟨by rw [sb.fr]; exact q.frames, q.mod, q.bs, q.bsz, q.funs, q.frf, q.hok, q.bare⟩
theorem run_sub {us : List Value} {vs : List V} (F : FnOk X.prog X.w X.K X.mg X.base CX k f fd ps sp) (sb : Sub X k A1) (hb : Binds X.K fd ps []) (hx : Passes CX X E) (I : Inv X pins σ H s) (r : Vals vs us) (h : sp vs H Q E) :
    wpAny (model X.prog X.w) A1 (call (.ref f) us) (EP X pins σ Q) X.xe s := by
  have hl : us.length = ps.length := by rw [← r.length]; exact F.len _ _ _ _ h
  have hb1 : BindsTo s fd ⟨us, []⟩ (ps.zip us) := by
    have z := hb s us I.kIn (by rw [List.append_nil]; exact hl)
    rw [List.append_nil] at z
    exact z
  refine wpAny_call (codeAny_mono (F.run A1 X.stack s H ⟨us, []⟩ us vs Q E sb.room (Sub.env0 sb I) hb1 r h) fun z s' hq => ?_)
  match z, hq with
  | .error e, hq => exact hx pins σ H s e s' I hq
  | .ok (.ret u), hq => exact I.after hq
  | .ok .next, hq => exact False.elim hq
  | .ok .brk, hq => exact False.elim hq
  | .ok .cont, hq => exact False.elim hq
theorem relR (a : Addr) : RelV (V.ref a) (Value.ref a) := rfl
theorem relB (b : Bool) : RelV (V.bl b) (Value.bool b) := rfl
theorem relI (i : Int) (t : Tok) : RelV (V.int i) (Value.int i t) := ⟨t, rfl⟩
/-- o[e] by the class's own def -/
def tGi (C : Addr) (sp : Sp) (E : XK) (ta tb : TE) : TE := fun σ H Q => ta σ H fun x H1 => tb σ H1 fun y H2 =>
  ∃ a dx fs, x = .ref a ∧ H2 a = some (.ins C dx fs) ∧ sp [.ref a, y] H2 Q E
theorem pe_gi (hd : Dn X.K C "__getitem__" f) (F : FnOk X.prog X.w X.K X.mg X.base CX k f fd ps sp) (hr : Room (k + 1) X.A) (hb : Binds X.K fd ps []) (hx : Passes CX X E) (ho : PE X o ta) (he : PE X e tb)
    (hs : ∀ v u, subscripted e true v u = runValue (.builtin "lifetime.subscript" ⟨[v, u], []⟩) := by intro _ _; with_unfolding_all rfl) :
    PE X (.Subscript o e pos) (tGi C sp E ta tb) := by
  refine ⟨fun pins s σ H Q I h => ?_⟩
  refine Subscript_ (binT ho he (R := fun x y H2 => ∃ a dx fs, x = .ref a ∧ H2 a = some (.ins C dx fs) ∧ sp [.ref a, y] H2 Q E) I h fun v u s2 x y H2 I2 rx ry ⟨a, dx, fs, ex, ha, q⟩ => ?_)
  subst ex
  obtain rfl : v = Value.ref a := rx
  obtain ⟨mA, O, rr, _, _, _⟩ := ins_get I2.hok ha
  obtain ⟨od, J, hl⟩ := O.look
  obtain ⟨m0, hF⟩ := I2.fr
  exact PySem.W.sub_K hF I2.ok.mod.kin J hd.at_ hd.fi hd.fn (run_sub F (Sub.in1 ⟨hr, rfl⟩) hb hx I2 (.cons (relR a) (.cons ry .nil)) q) (hs _ _)
/-- e in o, by the class's own def -/
def rIn (C : Addr) (sp : Sp) (E : XK) (neg : Bool) : R2 := fun x y H Q =>
  ∃ a dx fs, y = .ref a ∧ H a = some (.ins C dx fs) ∧ sp [.ref a, x] H (fun v H' => ∃ b, v = .bl b ∧ Q (.bl (if neg then !b else b)) H') E
theorem op_in_own (hd : Dn X.K C "__contains__" f) (F : FnOk X.prog X.w X.K X.mg X.base CX k f fd ps sp) (hr : Room k X.A) (hb : Binds X.K fd ps []) (hx : Passes CX X E) : OpR X (compareOp .In) (rIn C sp E false) := by
  intro pins s σ H x y v u Q I rx ry ⟨a, dx, fs, ey, ha, q⟩
  subst ey
  obtain rfl : u = Value.ref a := ry
  obtain ⟨mA, O, rr, _, _, _⟩ := ins_get I.hok ha
  obtain ⟨od, J, hl⟩ := O.look
  obtain ⟨m0, hF⟩ := I.fr
  refine PySem.W.in_K hF I.ok.mod.kin J hd.at_ hd.fn (thn (run_sub F ⟨hr, rfl⟩ hb hx I (.cons (relR a) (.cons rx .nil)) q) fun r s' ⟨z, H', I', rz, b, ez, q'⟩ => ?_)
  subst ez
  obtain rfl : r = Value.bool b := rz
  exact wpAny_truthy_bool ⟨_, _, I', relB b, q'⟩
/-- len(o) by the class's own def -/
def rLenO (C : Addr) (sp : Sp) (E : XK) : List V → Hp → VK → Prop := fun xs H Q =>
  ∃ a dx fs, xs = [.ref a] ∧ H a = some (.ins C dx fs) ∧ sp [.ref a] H (fun v H' => ∃ n : Nat, v = .int n ∧ n < 1000 ∧ Q (.int n) H') E
theorem call_len_own (hd : Dn X.K C "__len__" f) (F : FnOk X.prog X.w X.K X.mg X.base CX k f fd ps sp) (hr : Room (k + 1) X.A) (hb : Binds X.K fd ps []) (hx : Passes CX X E) : CallR X (.builtin "len") (rLenO C sp E) := by
  intro pins s σ H xs us Q I rv ⟨a, dx, fs, ex, ha, q⟩
  subst ex
  obtain ⟨u, rfl, ru⟩ := rv.one
  obtain rfl : u = Value.ref a := ru
  obtain ⟨mA, O, rr, _, _, _⟩ := ins_get I.hok ha
  obtain ⟨od, J, hl⟩ := O.look
  obtain ⟨m0, hF⟩ := I.fr
  refine PySem.W.len_K hF I.ok.mod.kin J hd.at_ hd.fn (thn (run_sub F (Sub.in1 ⟨hr, rfl⟩) hb hx I (.cons (relR a) .nil) q) fun r s' ⟨z, H', I', rz, n, ez, hn, q'⟩ => ?_)
  subst ez
  obtain ⟨t, rfl⟩ := rz
  exact ⟨⟨by omega, by omega⟩, _, _, I'.tok _, relI _ _, q'⟩
end

/-! for x in o, o an instance whose __iter__ says: return iter(self.F), F a tuple -/
def itTup (t : Addr) (i : Nat) : Obj := { cls := .type "tuple_iterator", data := .fields #[.ref t, .int (i : Nat) 0] }
def ItT (t it : Addr) (i : Nat) : HO := .ext fun h => h.get? it = some (itTup t i)
def rIterT (K : PySem.W.Frag) (n : Nat) : List V → Hp → VK → Prop := fun xs H Q => ∃ (t : Addr) (zs : List V), xs = [.ref t] ∧ SqT K H t zs ∧ ∀ it, H it = Option.none → n ≤ it → Q (.ref it) (upd H it (ItT t it 0))
section
variable {X : Cx}
theorem call_iterT : CallR X (.builtin "iter") (rIterT X.K X.s_0.heap.objs.size) := by
  intro pins s σ H xs us Q I r ⟨t, zs, e, hq, q⟩
  subst e
  obtain ⟨u, rfl, ru⟩ := r.one
  obtain rfl : u = Value.ref t := ru
  obtain ⟨its, rv, pl, hz⟩ := I.tuple hq
  refine Calls.call_function_entry (by decide +kernel) (by decide +kernel) PySem.W.kdk_entry_iter (PySem.W.kdk_args_iter _) ?_
  unfold Builtin.«iter»
  refine wpAny_bind (m := someArgs "iter" 1 2 _) (wpAny_of_eq (a := [Value.ref t]) (by first | rfl | kernel_rfl!) ?_)
  show wpAny _ _ (pyIter (.ref t) >>= _) _ _ _
  refine wpAny_bind (wpAny_pyIter_tuple (show s.heap.IsTuple t its.toArray from pl) ?_)
  have g : (s.heap.push (itTup t 0)).get? s.heap.objs.size = some (itTup t 0) := Heap.get?_push_size _ rfl
  have ok : ObjOk X.prog X.w (upd H s.heap.objs.size (ItT t s.heap.objs.size 0)) (s.heap.push (itTup t 0)) s.heap.objs.size (ItT t s.heap.objs.size 0) := ⟨g, ⟨_, g⟩, fun _ _ q k => k _ q⟩
  exact wpAny_pure ⟨_, rfl, .ref s.heap.objs.size, _, I.laid (t' := s.toks) (fun b u e => Heap.get?_push_of_some _ e) (Nat.le_refl _) ok, relR _, q _ (I.hok.fresh (Nat.le_refl _)) I.sz⟩
end

/-- a promise that may speak of how many objects there are when the def is called -/
def FnIt (P : Program) (w : World) (K : PySem.W.Frag) (mg : Str → Option Value) (base : Heap) (k : Nat) (f : Addr) (fd : FuncData) (ps : List Str) (sp : Nat → List V → Hp → VK → Prop) : Prop :=
  ∀ (A : Around) (outer : List Env) (s : Shared) (H : Hp) (us : List Value) (vs : List V) (Q : VK), Room k A → Env0 P w K mg base A outer s H → BindsTo s fd ⟨us, []⟩ (ps.zip us) → vs.length = ps.length → Vals vs us →
    sp s.heap.objs.size vs H Q → codeAny (model P w) A (.call (.ref f) ⟨us, []⟩) (CR CX0 outer P w H s Q E0) s
section
variable {P : Program} {w : World} {K : PySem.W.Frag} {mg : Str → Option Value} {base : Heap}
theorem fnIt_of {x qual : Str} {st : Stmt} {f : Addr} {fd : FuncData} {N ps : List Str} {k : Nat} {sp : Nat → List V → Hp → VK → Prop} (F : Fun K x qual st f fd) (S : FnScope N ps (defScope st))
    (hbody : ∀ (cdv : Value) (A : Around) (outer : List Env) (s : Shared) (H : Hp) (vs : List V) (Q : VK), Room k (A.deeper (envOfC qual (defScope st) s.heap.objs.size f cdv)) → sp s.heap.objs.size vs H Q →
      ∃ t, PSs (cxOf CX0 P w K mg base N qual (defScope st) f cdv A outer s H E0).nox (defBody st) t ∧ t { nx := fun _ H' => Q .non H', rt := Q } (start N vs) H) : FnIt P w K mg base (k + 1) f fd ps sp := by
  obtain ⟨oc, od, kV, doc, pm, an, cdv, ct, osl, rfl, lk, hcd⟩ := F.ex
  intro A outer s H us vs Q hr e0 hb hl r hsp
  have kin : K.In s.heap := e0.mod.kin.keeps fun b o e => (e0.bs b o e).1
  have lim : s.heap.NoLimit := e0.mod.nolimit.keeps fun b o e => (e0.bs b o e).1
  have kinds : ∀ y ∈ ps.zip us, (defScope st).names.lookup y.1 = some .local ∨ ((defScope st).names.lookup y.1 = some .cell ∧ ((cellsFrom (s.heap.objs.size + 1) (defScope st).names []).lookup y.1).isSome = true) := by
    intro y hy
    cases S.par y.1 (List.of_mem_zip (a := y.1) (b := y.2) hy).1 with
    | inl q => exact .inl q
    | inr q => exact .inr ⟨q, PySem.W.cellsFrom_some _ _ _ (.inl q)⟩
  apply codeAny_call_function hr.depth (kin _ _ lk) rfl S.co S.gen rfl (PySem.W.codeRec_of kin hcd) (hb _ _ _ _ ?_)
  apply wpAny_newFunctionEnv_cells S.kind kinds
  intro env he s1 x
  subst he
  refine ⟨lim.keeps x.toInCall.keep, codeAny_func ?_⟩
  obtain ⟨t, ht, hq⟩ := hbody cdv A outer s H vs Q (hr.deeper _) hsp
  have I := inv_start (CX := CX0) (P := P) (w := w) (E := E0) (cd := cdv) (qual := qual) (f := f) (outer := outer) S hr.hd e0 hl r x
  refine wpAny_mono (ht.nox.run [] s1 (start N vs) H _ I hq) (fun fl s' hs => ?_) fun e s' hs => hs
  match fl, hs with
  | .ret u, ⟨v, σ', H', J, rv, q⟩ => exact ⟨v, H', J.os, J.bare, J.base, J.hok, rv, q⟩
  | .next, ⟨σ', H', J, q⟩ => exact ⟨V.non, H', J.os, J.bare, J.base, J.hok, rfl, q⟩
  | .brk, ⟨_, _, _, q⟩ => exact False.elim q
  | .cont, ⟨_, _, _, q⟩ => exact False.elim q
end
/-- what such an __iter__ promises -/
def spIter (K : PySem.W.Frag) (C : Addr) (fld : Str) : Nat → List V → Hp → VK → Prop := fun n vs H Q => ∃ a dx fs t zs, vs = [.ref a] ∧ H a = some (.ins C dx fs) ∧ fs.lookup fld = some (.ref t) ∧ SqT K H t zs ∧
  ∀ it, H it = Option.none → n ≤ it → Q (.ref it) (upd H it (ItT t it 0))
/-- x in o, for a loop: o's own tuple is walked -/
def iOwn (K : PySem.W.Frag) (C : Addr) (fld : Str) (to : TE) : TI := fun σ H R => to σ H fun x H1 => ∃ a dx fs t zs, x = .ref a ∧ H1 a = some (.ins C dx fs) ∧ fs.lookup fld = some (.ref t) ∧ SqT K H1 t zs ∧ R (Itt K t) H1
section
variable {X : Cx} {k : Nat} {f C : Addr} {fd : FuncData} {fld : Str} {tg o : Expr} {to : TE} {pins : List (Addr × Obj)} {σ : L2.St} {H : Hp} {s : Shared} {A1 : Around}
theorem run_iter {a t dx : Addr} {fs : List (Str × V)} {zs : List V} (F : FnIt X.prog X.w X.K X.mg X.base k f fd ["self"] (spIter X.K C fld)) (sb : Sub X k A1) (hb : Binds X.K fd ["self"] []) (I : Inv X pins σ H s)
    (ha : H a = some (.ins C dx fs)) (hf : fs.lookup fld = some (.ref t)) (ht : SqT X.K H t zs) {E : Value → Shared → Prop} :
    wpAny (model X.prog X.w) A1 (call (.ref f) [.ref a]) (fun u s' => ∃ it, u = .ref it ∧ s.heap.objs.size ≤ it ∧ H it = Option.none ∧ Inv X pins σ (upd H it (ItT t it 0)) s') E s := by
  have hb1 : BindsTo s fd ⟨[.ref a], []⟩ ((["self"] : List Str).zip [Value.ref a]) := by
    have z := hb s [.ref a] I.kIn rfl
    exact z
  refine wpAny_call (codeAny_mono (F A1 X.stack s H [.ref a] [.ref a] (fun v H' => ∃ it, v = .ref it ∧ s.heap.objs.size ≤ it ∧ H it = Option.none ∧ H' = upd H it (ItT t it 0)) sb.room (Sub.env0 sb I) hb1 rfl (.cons (relR a) .nil)
    ⟨a, dx, fs, t, zs, rfl, ha, hf, ht, fun it h0 hn => ⟨it, rfl, hn, h0, rfl⟩⟩) fun z s' hq => ?_)
  match z, hq with
  | .error e, hq => exact hq.elim
  | .ok (.ret u), hq =>
    obtain ⟨v, H', I', rv, it, ev, hn, h0, eH⟩ := I.after hq
    subst ev
    rw [eH] at I'
    obtain rfl : u = Value.ref it := rv
    exact ⟨it, rfl, hn, h0, I'⟩
  | .ok .next, hq => exact False.elim hq
  | .ok .brk, hq => exact False.elim hq
  | .ok .cont, hq => exact False.elim hq
theorem pi_own (hd : Dn X.K C "__iter__" f) (F : FnIt X.prog X.w X.K X.mg X.base k f fd ["self"] (spIter X.K C fld)) (hr : Room k X.A) (hb : Binds X.K fd ["self"] []) (ho : PE X o to) : PI X tg o (iOwn X.K C fld to) := by
  refine ⟨fun pins s σ H R I h => ?_⟩
  refine thn (ho.run pins s σ H _ I h) fun u s1 ⟨x, H1, I1, rx, a, dx, fs, t, zs, ex, ha, hf, ht, q⟩ => ?_
  subst ex
  obtain rfl : u = Value.ref a := rx
  obtain ⟨mA, O, rr, _, _, _⟩ := ins_get I1.hok ha
  obtain ⟨od, J, hl⟩ := O.look
  obtain ⟨m0, hF⟩ := I1.fr
  refine PySem.W.owit_iter hF I1.ok.mod.kin J hd.at_ hd.fn (thn (run_iter F ⟨hr, rfl⟩ hb I1 ha hf ht) fun r s2 ⟨it, er, hn, h0, I2⟩ => ?_)
  subst er
  have e2 : upd H1 it (ItT t it 0) it = some (ItT t it 0) := upd_same
  have g : s2.heap.get? it = some (itTup t 0) := (I2.hok it _ e2).1
  have hT : s2.TypeIs (.ref it) "tuple_iterator" := ⟨_, g, rfl⟩
  have hfp := ItX.inv_fp I2 e2 (Nat.le_trans I1.sz hn)
  have I3 := ItX.inv_drop I2 e2
  rw [ItX.dropH_upd h0] at I3 hfp
  unfold PySem.W.OwitIt
  refine wpAny_specialOf (name := Str.ofString "__next__") hT PySem.F.slot_tuple_iterator_next.lookup ?_
  refine ⟨it, [it], _, _, H1, rfl, I3, turn_tuple t it, ⟨_, g, rfl, rfl⟩, fun b hb => ?_, q⟩
  rw [List.mem_singleton.mp hb]
  exact hfp
end
/-! C.m(e, .., k = v, ..), m a classmethod; cls(e, .., k = v, ..), cls a local name that holds the class -/
def tCMethK (C : Addr) (n m : Nat) (sp : Sp) (gV : List V → List V → List V) (E : XK) (ta : TE) (t tk : TA) : TE := fun σ H Q => ta σ H fun x H1 => x = .ref C ∧ t σ H1 fun vs H2 => tk σ H2 fun zs H3 => (.ref C :: vs).length = n ∧ zs.length = m ∧ sp (gV (.ref C :: vs) zs) H3 Q E
def tMakeLK (i : Nat) (C : Addr) (n m : Nat) (sp : Sp) (gV : List V → List V → List V) (E : XK) (t tk : TA) : TE := fun σ H Q => σ[i]? = some (some (.ref C)) ∧ tMakeK C n m sp gV E t tk σ H Q
section
variable {X : Cx} {CX : CXT} {k n i : Nat} {C p g f : Addr} {mc : Value} {sp : Sp} {E : XK} {o e : Expr} {es : List Expr} {kws : List Keyword} {m x : Str} {pos apos xpos : Pos} {ta : TE} {t tk : TA} {pl : Sem Bool} {fd : FuncData} {ps ks : List Str}
  {gv : List Value → List Value → List Value} {gV : List V → List V → List V}
theorem pe_cmethK (he : PE X o ta) (r : ClX.CRead X.K C mc) (c : ClX.CMet X.K C mc m p g) (F : FnOk X.prog X.w X.K X.mg X.base CX k g fd ps sp) (hr : Room k X.A) (hb : KBn X.K fd ps n ks gv gV) (hx : Passes CX X E) (ha : PA X (e :: es) t) (hkw : PK X kws tk)
    (hall : (backToKw pos (keywordEach kws X.env)).all (·.1.isSome) = true := by rfl) (hks : (backToKw pos (keywordEach kws X.env)).filterMap (·.1) = ks := by rfl)
    (hst : starEach (e :: es) X.env = (false, eval e X.env) :: starEach es X.env := by rfl) (hpl : ((backTo pos (starEach (e :: es) X.env)).any (·.1) || (backToKw pos (keywordEach kws X.env)).any (·.1.isNone)) = false := by rfl)
    (ht : eval (.Call (.Attribute o m apos) (e :: es) kws pos) X.env = (do
      let ov ← eval o X.env
      standAt apos.atName
      let (f, first) ← holding [ov] (getMethod ov m pl)
      callWith pos f first (backTo pos (starEach (e :: es) X.env)) (backToKw pos (keywordEach kws X.env))) := by rfl) :
    PE X (.Call (.Attribute o m apos) (e :: es) kws pos) (tCMethK C n ks.length sp gV E ta t tk) := by
  refine ⟨fun pins s σ H Q I h => ?_⟩
  refine PySem.W.methodCall_KW (pl := pl) (thn (he.run pins s σ H _ I h) fun u s1 ⟨x, H1, I1, rx, ex, q⟩ => ?_) ht
  subst ex
  obtain rfl : u = Value.ref C := rx
  refine ClX.getmethcm_ok I1 r c fun s2 I2 => ?_
  refine PySem.W.callWith_of (P := PySem.W.MethP X.K s1.heap.objs.size g (.ref C)) hpl (PySem.W.keeps_M c.fi) (evalArgs_kw2 hall (thn (ha.run pos _ s2 σ H1 _ I2 q) fun us s3 ⟨vs, H2, I3, rv, q2⟩ => ?_) hst)
  refine thn (hkw.run pos _ s3 σ H2 _ I3 q2) fun ws s4 ⟨zs, H3, I4, rz, l1, l2, q3⟩ => ⟨⟨ClX.pin_at I4, I4.kIn⟩, ?_⟩
  rw [hks]
  have r2 : Vals (V.ref C :: vs) (Value.ref C :: us) := .cons (relR C) rv
  have n1 : (Value.ref C :: us).length = n := r2.length.symm.trans l1
  have I5 := ClX.unpin I4
  refine wpAny_call (PySem.W.method_call (ClX.pin_at I4) (codeAny_mono (F.run X.A X.stack s4 H3 ⟨Value.ref C :: us, ks.zip ws⟩ _ _ Q E hr I5.env0 (hb.to _ (Value.ref C :: us) ws I5.kIn n1 (rz.length.symm.trans l2)) (hb.rel r2 rz) q3) fun z s' hq => ?_))
  match z, hq with
  | .error e, hq => exact hx pins σ H3 s4 e s' I5 hq
  | .ok (.ret u), hq => exact I5.after hq
  | .ok .next, hq => exact False.elim hq
  | .ok .brk, hq => exact False.elim hq
  | .ok .cont, hq => exact False.elim hq
theorem pe_makeLK (M : Mk X.K C f) (F : FnOk X.prog X.w X.K X.mg X.base CX k f fd ps sp) (hr : Room (k + 1) X.A) (hb : KBn X.K fd ps (n + 1) ks gv gV) (hx : Passes CX X E) (ha : PA X (e :: es) t) (hkw : PK X kws tk)
    (hN : X.N[i]? = some x) (hv : Vis X.env.scope x) (hd : (x == ("__debug__" : Str)) = false := by decide) (hcd : (x == ("__classdict__" : Str)) = false := by decide)
    (hall : (backToKw pos (keywordEach kws X.env)).all (·.1.isSome) = true := by rfl) (hks : (backToKw pos (keywordEach kws X.env)).filterMap (·.1) = ks := by rfl)
    (hst : starEach (e :: es) X.env = (false, eval e X.env) :: starEach es X.env := by rfl) (hpl : ((backTo pos (starEach (e :: es) X.env)).any (·.1) || (backToKw pos (keywordEach kws X.env)).any (·.1.isNone)) = false := by rfl) :
    PE X (.Call (.Name x xpos) (e :: es) kws pos) (tMakeLK i C n ks.length sp gV E t tk) := by
  refine ⟨fun pins s σ H Q I ⟨h0, h⟩ => ?_⟩
  refine wpAny_Call_Name_kw (thn ((pe_var (pos := xpos) (i := i) hN hv hd hcd).run pins s σ H (fun v H1 => v = .ref C ∧ H1 = H) I ⟨.ref C, h0, rfl, rfl⟩) fun u s1 ⟨v, H1, I1, r1, ev, eH⟩ => ?_)
  subst ev
  rw [eH] at I1
  obtain rfl : u = Value.ref C := r1
  refine PySem.W.callWith_KW (h₀ := X.base) I1.ok.mod.kin M.kp hall (thn (ha.run pos pins s1 σ H _ I1 h) fun us s2 ⟨vs, H2, I2, r, q⟩ => ?_) hpl hst
  refine thn (hkw.run pos pins s2 σ H2 _ I2 q) fun ws s3 ⟨zs, H3, I3, rz, l1, l2, q2⟩ => ⟨I3.kIn, ?_⟩
  rw [hks]
  exact run_makeK M F hr hb hx I3 r rz l1 l2 q2
end

/-! heaps that only grow -/
theorem Same.up {H : Hp} {p : Addr} {o : HO} (h : H p = Option.none) : Same H (upd H p o) := fun b u e => by
  rw [upd_ne (ne_of_none e h)]
  exact e
/-- a list under way at D, which was not there in H1 -/
structure Acc (H1 : Hp) (D : Addr) (acc : List V) (H : Hp) : Prop where
  s : Same H1 H
  n : H1 D = Option.none
  a : H D = some (.lst acc)
theorem Acc.start {H1 : Hp} {D : Addr} (n : H1 D = Option.none) : Acc H1 D [] (upd H1 D (.lst [])) := ⟨Same.up n, n, upd_same⟩
theorem Acc.same {H1 H H' : Hp} {D : Addr} {acc : List V} (h : Acc H1 D acc H) (s : Same H H') : Acc H1 D acc H' := ⟨h.s.trans s, h.n, s _ _ h.a⟩
theorem Acc.push {H1 H : Hp} {D : Addr} {acc zs : List V} (h : Acc H1 D acc H) : Acc H1 D zs (upd H D (.lst zs)) :=
  ⟨fun b o e => by rw [upd_ne (ne_of_none e h.n)]; exact h.s b o e, h.n, upd_same⟩
theorem Same.none' {H H' : Hp} (s : Same H H') {p : Addr} (h : H' p = Option.none) : H p = Option.none := s.free h
theorem Same.of_upd {H H' : Hp} {p : Addr} {o : HO} (h : H p = Option.none) (s : Same (upd H p o) H') : Same H H' := (Same.up h).trans s
/-- a list of ints as values -/
theorem ints_at {ns : List Int} {i : Nat} {x : V} (h : (ns.map V.int)[i]? = some x) : ∃ (hi : i < ns.length), x = .int ns[i] := by
  rw [List.getElem?_map] at h
  cases e : ns[i]? with
  | none => rw [e] at h; cases h
  | some u =>
    rw [e] at h
    obtain ⟨hi, rfl⟩ := List.getElem?_eq_some_iff.mp e
    exact ⟨hi, (Option.some.inj h).symm⟩

/-! comprehensions that pick -/
section
variable {α : Type} {H1 H : Hp} {D : Addr} {ks : List α} {f : α → Option V} {i : Nat} {c : α → V}
def PickI (H1 : Hp) (D : Addr) (ks : List α) (f : α → Option V) : Nat → Hp → Prop := fun i H => Acc H1 D ((ks.take i).filterMap f) H
theorem pick_start (n : H1 D = Option.none) : PickI H1 D ks f 0 (upd H1 D (.lst [])) := Acc.start n
theorem take_fm (hi : i < ks.length) : (ks.take (i + 1)).filterMap f = (ks.take i).filterMap f ++ (f ks[i]).toList := by
  rw [List.take_succ_eq_append_getElem hi, List.filterMap_append]
  cases h : f ks[i] <;> simp [h]
theorem pick_yes {H' : Hp} {y : V} (hi : i < ks.length) (hl : ks.length ≤ 1000) (e : f ks[i] = some y) (s : Same H H') (h : PickI H1 D ks f i H) :
    ∃ acc, H' D = some (.lst acc) ∧ acc.length < sizeLine ∧ PickI H1 D ks f (i + 1) (upd H' D (.lst (acc ++ [y]))) := by
  have h2 := Acc.same h s
  refine ⟨_, h2.a, small1000 ?_, ?_⟩
  · exact Nat.le_trans (Nat.le_trans (List.length_filterMap_le _ _) (List.length_take_le _ _)) (by omega)
  · unfold PickI
    rw [take_fm hi, e]
    exact h2.push
theorem pick_no {H' : Hp} (hi : i < ks.length) (e : f ks[i] = none) (s : Same H H') (h : PickI H1 D ks f i H) : PickI H1 D ks f (i + 1) H' := by
  unfold PickI
  rw [take_fm hi, e, Option.toList_none, List.append_nil]
  exact Acc.same h s
theorem pick_end {m : Nat} (hm : m = ks.length) (h : PickI H1 D ks f m H) : Acc H1 D (ks.filterMap f) H := by
  subst hm
  unfold PickI at h
  rw [List.take_length] at h
  exact h
theorem map_at {x : V} (h : (ks.map c)[i]? = some x) : ∃ hi : i < ks.length, x = c ks[i] := by
  rw [List.getElem?_map] at h
  cases e : ks[i]? with
  | none => rw [e] at h; cases h
  | some u =>
    rw [e] at h
    obtain ⟨hi, rfl⟩ := List.getElem?_eq_some_iff.mp e
    exact ⟨hi, (Option.some.inj h).symm⟩
end
end Tw

set_option Elab.async false
set_option linter.all false
set_option maxRecDepth 100000
set_option maxHeartbeats 2000000
namespace Tw
open PySem PySem.Spec PyProof.Rows L2
open PySem.W (InstAt looks_findIn looks_subIn ifBound_K cmp_K)
/-- a class with an own __eq__ and the usual != -/
structure EqC (K : PySem.W.Frag) (C f : Addr) : Prop where
  eq : PySem.W.findIn K (.ref C) "__eq__" = some (some (.ref f))
  fn : PySem.W.isFn K (.ref f) = true
  ne : PySem.W.findIn K (.ref C) "__ne__" = some (some (.builtin "object.__ne__"))
  ob : PySem.W.subIn K (.ref C) (.type "object") = some true
  ni : PySem.W.subIn K (.type "int") (.ref C) = some false
  nt : PySem.W.subIn K (.type "tuple") (.ref C) = some false

section
variable {prog : Program} {w : World} {A : Around} {E : Value → Shared → Prop} {s : Shared} {K : PySem.W.Frag} {x C L f : Addr} {h₀ : Heap} {m : Str → Option Value} {ox : Obj} {od : Option Obj} {b tb : Value}
theorem ne_entry {Q : PySem.Fin → Shared → Prop} (hu : A.units < cLine) (X : K.In s.heap) (I : InstAt s.heap x ox C od) (c : EqC K C f)
    (h : wpAny (model prog w) A (call (.ref f) [.ref x, b]) (fun v s' => ∃ r, v = .bool r ∧ Q (.done (.ret (.bool (!r)))) s') E s) :
    wpAny (model prog w) A (Builtin.«object.__ne__» ⟨[.ref x, b], []⟩) Q E s := by
  unfold Builtin.«object.__ne__»
  refine wpAny_bind (wpAny_of_eq (a := (Value.ref x, [b])) (by first | rfl | kernel_rfl!) ?_)
  refine wpAny_bind (wpAny_cRoomFor hu ?_)
  refine wpAny_bind (m := callSpecialIfBound? (.ref x) (Str.ofString "__eq__") [b]) (ifBound_K X I c.eq c.fn (wpAny_mono h (fun v s' hv => ?_) fun _ _ e => e))
  obtain ⟨r, e, q⟩ := hv
  subst e
  refine wpAny_bind (m := truthy (.bool r)) (wpAny_truthy_bool ?_)
  exact wpAny_pure q
theorem ne_call {Q : Value → Shared → Prop} (hu : A.in1.units < cLine) (X : K.In s.heap) (I : InstAt s.heap x ox C od) (c : EqC K C f)
    (h : wpAny (model prog w) A.in1 (call (.ref f) [.ref x, b]) (fun v s' => ∃ r, v = .bool r ∧ Q (.bool (!r)) s') E s) :
    wpAny (model prog w) A (call (.builtin "object.__ne__") [.ref x, b]) Q E s := by
  have t2 : PySem.W.Looks (model prog w) s.heap (isInstance (.ref x) (.type "object")) true := I.type.andThen (looks_subIn X c.ob)
  refine wpAny_call (codeAny_call_builtin F.cmp_object.ne.plain F.cmpEntry_ne (PySem.W.check_slot F.cmpKind_ne F.cmpSplit_ne t2 (F.cmpArgs_ne _ _) (ne_entry hu X I c (wpAny_mono h (fun v s' hv => ?_) fun _ _ e => e))))
  obtain ⟨r, e, q⟩ := hv
  exact ⟨r, e, q⟩
theorem ne_bound {Q : Option Value → Shared → Prop} (hu : A.in1.units < cLine) (X : K.In s.heap) (I : InstAt s.heap x ox C od) (c : EqC K C f)
    (h : wpAny (model prog w) A.in1 (call (.ref f) [.ref x, b]) (fun v s' => ∃ r, v = .bool r ∧ Q (some (.bool (!r))) s') E s) :
    wpAny (model prog w) A (callSpecialIfBound? (.ref x) "__ne__" [b]) Q E s := by
  simp only [callSpecialIfBound?, bindSpecialIfBound?]
  refine wpAny_holding (wpAny_bind (wpAny_bind (wpAny_bind (I.type.here ((looks_findIn X c.ne).here ?_)))))
  refine wpAny_bind (wpAny_askSetting (wpAny_ite ?_))
  have fin : wpAny (model prog w) A (call (.builtin "object.__ne__") ([.ref x] ++ [b]) >>= fun v => pure (some v)) Q E s :=
    wpAny_bind (ne_call hu X I c (wpAny_mono h (fun v s' ⟨r, e, q⟩ => ⟨r, e, wpAny_pure q⟩) fun _ _ e => e))
  have bd := F.cmp_object.ne.bind (.ref x)
  split
  · refine wpAny_bind ?_
    rw [bd]
    exact wpAny_pure (wpAny_pure (by exact fin))
  · refine wpAny_tryCatch (wpAny_bind ?_)
    rw [bd]
    exact wpAny_pure (wpAny_pure (by exact fin))
theorem ne_K {Q : Value → Shared → Prop} (hu : A.in1.units < cLine) (hu0 : A.units < cLine) (F : Fr h₀ L s.heap m) (X₀ : K.In h₀) (I : InstAt s.heap x ox C od) (hb : PySem.W.Looks (model prog w) s.heap (typeOf b) tb) (hn : PySem.W.notFirst K C tb = true) (c : EqC K C f)
    (h : wpAny (model prog w) A.in1 (call (.ref f) [.ref x, b]) (fun v s' => ∃ r, v = .bool r ∧ Q (.bool (!r)) s') E s) : wpAny (model prog w) A (richCompare .NotEq (.ref x) b) Q E s := by
  have X := X₀.keeps F.keep
  have one : wpAny (model prog w) A (tryCompare (.ref x) (cmpInfo .NotEq).2.1 b) (fun r s' => ∃ v, r = some v ∧ Q v s') E s := by
    unfold tryCompare
    refine wpAny_bind (ne_bound hu X I c (wpAny_mono h (fun v s' ⟨r, e, q⟩ => ⟨r, e, ?_⟩) fun _ _ e => e))
    exact wpAny_pure ⟨_, rfl, q⟩
  have two : ∀ r s', (∃ v, r = some v ∧ Q v s') → ∃ v, r = some v ∧ Q v s' := fun _ _ z => z
  unfold richCompare
  simp only [oneThing_ref]
  refine wpAny_holding (wpAny_bind (wpAny_cRoomFor hu0 ?_))
  refine wpAny_bind (I.type.here (wpAny_bind (hb.here ?_)))
  split
  · rename_i q
    have e : PySem.W.subIn K tb (.ref C) = some false := by
      rcases Bool.or_eq_true_iff.mp hn with e | e
      · rw [beq_iff_eq.mp e] at q; simp at q
      · exact beq_iff_eq.mp e
    refine wpAny_bind ((looks_subIn X e).here ?_)
    simp only [Bool.false_eq_true, if_false]
    refine wpAny_bind (wpAny_mono one (fun r s' ⟨v, ev, hq⟩ => ?_) fun _ _ e => e)
    subst ev
    exact wpAny_pure hq
  · refine wpAny_bind (wpAny_pure ?_)
    simp only [Bool.false_eq_true, if_false]
    refine wpAny_bind (wpAny_mono one (fun r s' ⟨v, ev, hq⟩ => ?_) fun _ _ e => e)
    subst ev
    exact wpAny_pure hq
end
/-! as rules -/
section
variable {X : Cx} {CX : CXT} {k : Nat} {f C : Addr} {fd : FuncData} {ps : List Str} {sp : Sp} {E : XK}
/-- the other operand: an instance of the same class, an int, a tuple -/
inductive Oth (H : Hp) (C : Addr) : V → Prop where
  | ins {a dx : Addr} {fs : List (Str × V)} (h : H a = some (.ins C dx fs)) : Oth H C (.ref a)
  | int (i : Int) : Oth H C (.int i)
  | tup {a : Addr} {xs : List V} (h : H a = some (.tup xs)) : Oth H C (.ref a)
def rEqO (C : Addr) (sp : Sp) (E : XK) (neg : Bool) : R2 := fun x y H Q =>
  ∃ a dx fs, x = .ref a ∧ H a = some (.ins C dx fs) ∧ Oth H C y ∧ sp [.ref a, y] H (fun v H' => ∃ r, v = .bl r ∧ Q (.bl (if neg then !r else r)) H') E
theorem oth_type {pins : List (Addr × Obj)} {σ : L2.St} {H : Hp} {s : Shared} {y : V} {u : Value} (I : Inv X pins σ H s) (ry : RelV y u) (c : EqC X.K C f) (o : Oth H C y) :
    ∃ tb, PySem.W.Looks (model X.prog X.w) s.heap (typeOf u) tb ∧ PySem.W.notFirst X.K C tb = true := by
  cases o with
  | @ins a dx fs h =>
    obtain rfl : u = Value.ref a := ry
    obtain ⟨mA, O, rr, _, _, _⟩ := ins_get I.hok h
    obtain ⟨od, J, hl⟩ := O.look
    exact ⟨_, J.type, by unfold PySem.W.notFirst; simp⟩
  | int i =>
    obtain ⟨t, rfl⟩ := ry
    exact ⟨.type "int", .now, by unfold PySem.W.notFirst; rw [c.ni]; simp⟩
  | @tup a xs h =>
    obtain rfl : u = Value.ref a := ry
    obtain ⟨_, _, _, ob, h1, h2, _⟩ := (show ObjOk X.prog X.w H s.heap a (.tup xs) from I.hok a _ h)
    exact ⟨.type "tuple", h2 ▸ (PySem.W.Looks.ld h1).andThen .now, by unfold PySem.W.notFirst; rw [c.nt]; simp⟩
theorem op_eq_own (c : EqC X.K C f) (F : FnOk X.prog X.w X.K X.mg X.base CX k f fd ps sp) (hr : Room k X.A) (hb : Binds X.K fd ps []) (hx : Passes CX X E) : OpR X (compareOp .Eq) (rEqO C sp E false) := by
  intro pins s σ H x y v u Q I rx ry ⟨a, dx, fs, ex, ha, o, q⟩
  subst ex
  obtain rfl : v = Value.ref a := rx
  obtain ⟨mA, O, rr, _, _, _⟩ := ins_get I.hok ha
  obtain ⟨od, J, hl⟩ := O.look
  obtain ⟨m0, hF⟩ := I.fr
  obtain ⟨tb, lk, nf⟩ := oth_type I ry c o
  show wpAny _ _ (richCompare .Eq (.ref a) u) _ _ _
  refine cmp_K hr.units0 hF I.ok.mod.kin J lk nf c.eq c.fn (thn (run_sub F ⟨hr, rfl⟩ hb hx I (.cons (relR a) (.cons ry .nil)) q) fun r s' ⟨z, H', I', rz, b, ez, q'⟩ => ?_)
  subst ez
  obtain rfl : r = Value.bool b := rz
  exact ⟨_, H', I', relB b, q'⟩
theorem op_ne_own (c : EqC X.K C f) (F : FnOk X.prog X.w X.K X.mg X.base CX k f fd ps sp) (hr : Room (k + 1) X.A) (hb : Binds X.K fd ps []) (hx : Passes CX X E) : OpR X (compareOp .NotEq) (rEqO C sp E true) := by
  intro pins s σ H x y v u Q I rx ry ⟨a, dx, fs, ex, ha, o, q⟩
  subst ex
  obtain rfl : v = Value.ref a := rx
  obtain ⟨mA, O, rr, _, _, _⟩ := ins_get I.hok ha
  obtain ⟨od, J, hl⟩ := O.look
  obtain ⟨m0, hF⟩ := I.fr
  obtain ⟨tb, lk, nf⟩ := oth_type I ry c o
  show wpAny _ _ (richCompare .NotEq (.ref a) u) _ _ _
  refine ne_K (Room.units0 hr.in1) hr.units0 hF I.ok.mod.kin J lk nf c (thn (run_sub F (Sub.in1 ⟨hr, rfl⟩) hb hx I (.cons (relR a) (.cons ry .nil)) q) fun r s' ⟨z, H', I', rz, b, ez, q'⟩ => ?_)
  subst ez
  exact ⟨b, rz, _, H', I', relB (!b), q'⟩
end
end Tw

set_option Elab.async false
set_option linter.all false
set_option maxRecDepth 100000
set_option maxHeartbeats 4000000
namespace Tw
open PySem PySem.Spec PyProof.Rows L2
/-! enumerate(t), t a tuple -/
def enO (s : Shared) : Obj := { cls := .type "enumerate", data := .fields #[.none, .bool false, .ref s.heap.objs.size, rawInt 0, .none, .none] }
theorem enum_newT (t : Addr) (items : Array Value) :
    Meets (Builtin.«enumerate.__new__» ⟨[.type "enumerate", .ref t], []⟩) (fun _ R s => s.heap.IsTuple t items ∧
      R (.ok (.ret (.ref (s.heap.push (itTup t 0)).objs.size))) { s with heap := (s.heap.push (itTup t 0)).push (enO s) }) :=
  .of_wp fun prog w A R s h => by
    obtain ⟨hp, g, d, tk, os⟩ := s
    obtain ⟨h1, h⟩ := h
    have hsub := sub_enumerate
    have q1 : ∀ {A' : Around} {E : Value → Shared → Prop} {Q : Value → Shared → Prop}, Q (.ref hp.objs.size) ⟨hp.push (itTup t 0), g, d, tk, os⟩ → wpAny (model prog w) A' (pyIter (.ref t)) Q E ⟨hp, g, d, tk, os⟩ :=
      fun q => wpAny_pyIter_tuple (s := ⟨hp, g, d, tk, os⟩) h1 q
    wp_walk using q1
    refine wpAny_stack_any fun st => wpAny_pure ?_
    split
    · rename_i c _ _ _ _ _
      cases (c == Value.type "enumerate")
      · wp_walk using q1
        exact ⟨_, rfl, h⟩
      · wp_walk using q1
        exact ⟨_, rfl, h⟩
    · wp_walk using q1
      exact ⟨_, rfl, h⟩
section
variable {prog : Program} {w : World} {A : Around} {E : Value → Shared → Prop} {s : Shared}
theorem call_enumT {t : Addr} {items : Array Value} {Q : Value → Shared → Prop} (hT : s.heap.IsTuple t items)
    (h : ∀ h', IsEnum h' (s.heap.objs.size + 1) s.heap.objs.size 0 .none → h'.IsTupleIter s.heap.objs.size t 0 → h'.objs.size = s.heap.objs.size + 2 →
      (∀ b o, s.heap.get? b = some o → h'.get? b = some o) → Q (.ref (s.heap.objs.size + 1)) { s with heap := h' }) :
    wpAny (model prog w) A (call (.type "enumerate") [.ref t]) Q E s := by
  refine callType_new F.called_enumerate (by decide) (F.typeCall_enumerate_1 _) (F.newCall_enumerate_1 _) (fun obj => F.args_object_init_2 obj _) F.entry_enumerate_new (enum_newT t items) ⟨hT, ?_⟩
  have hz : (s.heap.push (itTup t 0)).objs.size = s.heap.objs.size + 1 := Heap.size_push ..
  show _ ∧ _
  rw [hz]
  have he : IsEnum ((s.heap.push (itTup t 0)).push (enO s)) (s.heap.objs.size + 1) s.heap.objs.size 0 .none := by
    have q := Heap.get?_push_size (s.heap.push (itTup t 0)) (o := enO s) rfl
    rw [hz] at q
    exact q
  have hi : ((s.heap.push (itTup t 0)).push (enO s)).IsTupleIter s.heap.objs.size t 0 := ⟨_, Heap.get?_push_of_some _ (Heap.get?_push_size _ rfl), rfl, rfl⟩
  exact ⟨⟨_, he, rfl⟩, h _ he hi (by rw [Heap.size_push, hz]) fun b o x => Heap.get?_push_of_some _ (Heap.get?_push_of_some _ x)⟩
end
def IteT (K : PySem.W.Frag) (a : Addr) : It :=
  ⟨fun i H => ∃ (xs : List V) (x : V), SqT K H a xs ∧ xs[i]? = some x, fun i H v H' => ∃ T x, v = .ref T ∧ H T = Option.none ∧ H' = upd H T (.tup [.int (i : Nat), x]) ∧ ∀ xs, SqT K H a xs → xs[i]? = some x, fun i H => ∃ xs : List V, SqT K H a xs ∧ xs.length = i⟩
theorem turn_enumT {P : Program} {w : World} {K : PySem.W.Frag} {elts : List Expr} {kk : Nat} {tpos : Pos} (a e it : Addr) :
    Turn P w K (.Tuple elts kk tpos) (IteT K a) [e, it] e (fun i h => (∃ old, IsEnum h e it ((i : Nat) : Int) old) ∧ h.IsTupleIter it a i ∧ e ≠ it) where
  mem := by simp
  obj := fun i h st b hb => by
    obtain ⟨⟨old, he⟩, ⟨o, ho, hc, hd⟩, _⟩ := st
    rcases (show b = e ∨ b = it by simpa using hb) with rfl | rfl
    · exact ⟨_, he, fun v q => nomatch q⟩
    · exact ⟨o, ho, fun v q => by rw [hd] at q; cases q⟩
  keep := fun i h h' st k => let ⟨⟨old, he⟩, hi, hne⟩ := st; ⟨⟨old, k e (by simp) _ he⟩, hi.at fun o q => k it (by simp) o q, hne⟩
  item := by
    intro X hP hw hK hc i pins s σ H E I hf st hg
    subst hP hw hK
    obtain ⟨⟨old, he⟩, hit, hne⟩ := st
    obtain ⟨xs, x, hq, hx⟩ := hg
    obtain ⟨its, rv, p, hz⟩ := I.tuple hq
    have hil : i < xs.length := (List.getElem?_eq_some_iff.mp hx).1
    have hlen := rv.length
    have hel : e < s.heap.objs.size := Heap.lt_size he
    have hitl : it < s.heap.objs.size := by obtain ⟨_, q, _⟩ := hit; exact Heap.lt_size q
    have hae : e ≠ a := fun z => by
      obtain ⟨oo, h1, h2, _⟩ := p
      rw [← z, he] at h1
      cases h1
      injection h2 with q
      exact absurd q (by decide)
    have hia : it ≠ a := fun z => by
      obtain ⟨oo, h1, h2, _⟩ := p
      obtain ⟨o2, h3, h4, _⟩ := hit
      rw [← z, h3] at h1
      cases h1
      rw [h4] at h2
      injection h2 with q
      exact absurd q (by decide)
    have D := Draws.tuple (prog := X.prog) (w := X.w) (A := X.A.in1) (I.ok.hd hc) it a hia.symm its.toArray
    refine wpAny_pyNext_enum_itemD D he ⟨hit, p⟩ (by rw [List.size_toArray]; omega) hne (by simp [hne, hae]) fun u h' tk hu ho hst hT hsz hk => ?_
    obtain ⟨u2, hu2, ru⟩ := rv.get hx
    obtain rfl : u = u2 := by
      rw [List.getElem?_toArray] at hu
      exact Option.some.inj (hu.symm.trans hu2)
    refine ⟨_, rfl, wpAny_letOwnedTupleGo_enum (s := { s with heap := h', toks := tk + 1 }) ho fun h'' he' sb => ?_⟩
    have hT2 : h''.get? s.heap.objs.size = some { cls := .type "tuple", data := .seq #[.int i tk, u] } := (sb.2 _ (Nat.ne_of_gt hel)).trans hT
    have new : ObjOk X.prog X.w (upd H s.heap.objs.size (.tup [.int (i : Nat), x])) h'' s.heap.objs.size (.tup [.int (i : Nat), x]) :=
      ⟨by show 2 ≤ sizeLine; decide, [.int i tk, u], .cons ⟨_, rfl⟩ (.cons ru .nil), ⟨_, hT2, rfl, _, rfl⟩⟩
    have I1 : Inv X pins σ (upd H s.heap.objs.size (.tup [.int (i : Nat), x])) { s with heap := h'', toks := tk + 1 } :=
      I.turnedNew (ch := [e, it]) (fun b ob hb q => (sb.2 b (fun z => hb (by simp [z]))).trans (hk b ob (fun z => hb (by simp [z])) (fun z => hb (by simp [z])) q)) hf (Nat.le_refl _) new
    refine ⟨.ref s.heap.objs.size, _, I1, rfl, ⟨_, x, rfl, I.hok.fresh (Nat.le_refl _), rfl, fun ys hy => by rw [I.tuple_inj hy hq]; exact hx⟩, ⟨⟨u, ?_⟩, hst.1.at fun o q => (sb.2 it (Ne.symm hne)).trans q, hne⟩, fun b hb => ?_⟩
    · rw [show ((i + 1 : Nat) : Int) = (i : Int) + 1 by omega]
      exact he'
    · have hb' : b < s.heap.objs.size := by
        rcases (show b = e ∨ b = it by simpa using hb) with rfl | rfl
        · exact hel
        · exact hitl
      rw [upd_ne (Nat.ne_of_lt hb')]
      exact (hf b hb).1
  done := by
    intro X hP hw hK hc i pins s σ H E I hf st hg
    subst hP hw hK
    obtain ⟨⟨old, he⟩, hit, hne⟩ := st
    obtain ⟨xs, hq, hx⟩ := hg
    obtain ⟨its, rv, p, hz⟩ := I.tuple hq
    obtain ⟨f0, f1, f2, f3, f4, f5⟩ := hf it (by simp)
    have hlen := rv.length
    have hae : e ≠ a := fun z => by
      obtain ⟨oo, h1, h2, _⟩ := p
      rw [← z, he] at h1
      cases h1
      injection h2 with q
      exact absurd q (by decide)
    have hia : it ≠ a := fun z => by
      obtain ⟨oo, h1, h2, _⟩ := p
      obtain ⟨o2, h3, h4, _⟩ := hit
      rw [← z, h3] at h1
      cases h1
      rw [h4] at h2
      injection h2 with q
      exact absurd q (by decide)
    have D := Draws.tuple (prog := X.prog) (w := X.w) (A := X.A.in1) (I.ok.hd hc) it a hia.symm its.toArray
    have en : its.toArray.size = i := by rw [List.size_toArray]; omega
    refine wpAny_pyNext_enum_endD D he (by rw [en]; exact ⟨hit, p⟩) fun h' eb => ⟨rfl, I.turned (t' := s.toks) (fun b o hb q => eb b o hb q) f0 f1 f3 f4 f5⟩
  self := fun A i s Q E st h => let ⟨⟨_, he⟩, _⟩ := st; wpAny_pyIter_enum he h
theorem walk_enumT {K : PySem.W.Frag} {a : Addr} {xs : List V} : Walk (IteT K a) xs.length (fun H => SqT K H a xs) (YPair (fun i => some (.int (i : Nat))) (fun i => xs[i]?)) := by
  refine ⟨fun i _ hi q => ⟨xs, xs[i], q, by simp [hi]⟩, fun _ q => ⟨xs, q, rfl⟩, fun i H v H' _ q y => ?_⟩
  obtain ⟨T, x, h1, h2, h3, h4⟩ := y
  exact ⟨T, .int (i : Nat), x, h1, h2, h3, rfl, h4 xs q⟩
/-- enumerate of a list or of a tuple -/
def iEnS (K : PySem.W.Frag) (ta : TA) : TI := fun σ H R => ta σ H fun vs H1 => ∃ a xs, vs = [.ref a] ∧ ((SqL K H1 a xs ∧ R (Ite K a) H1) ∨ (SqT K H1 a xs ∧ R (IteT K a) H1))
theorem pi_enS {X : Cx} {e : Expr} {ta : TA} {p pos tpos : Pos} {elts : List Expr} {kk : Nat} (hg : Gl X "enumerate") (hm : X.mg "enumerate" = Option.none) (ha : PA X [e] ta) (hs : starEach [e] X.env = [(false, eval e X.env)] := by rfl) :
    PI X (.Tuple elts kk tpos) (.Call (.Name "enumerate" p) [e] [] pos) (iEnS X.K ta) := by
  refine ⟨fun pins s σ H R I h => ?_⟩
  refine Call_ (ld_blt I hg hm boot_enumerate (PyProof.Rows.callWith_type1 (thn (ha.run pos pins s σ H _ I h) fun us s1 ⟨vs, H1, I1, r1, a, xs, ex, q1⟩ => ?_) hs rfl))
  subst ex
  obtain ⟨u, rfl, ru⟩ := r1.one
  obtain rfl : u = Value.ref a := ru
  have fr : ∀ b ∈ [s1.heap.objs.size + 1, s1.heap.objs.size], FpOk X pins H1 b := fun b hb => by
    have hle : s1.heap.objs.size ≤ b := by
      rcases (show b = s1.heap.objs.size + 1 ∨ b = s1.heap.objs.size by simpa using hb) with z | z <;> omega
    exact I1.fpOk hle (I1.hok.fresh hle)
  rcases q1 with ⟨hq, q⟩ | ⟨hq, q⟩
  · obtain ⟨its, rv, p', hz⟩ := I1.list hq
    exact call_enumerate_list p'.isList fun h' he hit hsz hk => wpAny_pyIter_enum he ⟨_, _, _, _, H1, rfl, I1.kept (t' := s1.toks) hk, turn_enum a (s1.heap.objs.size + 1) s1.heap.objs.size, ⟨⟨.none, he⟩, hit, Nat.succ_ne_self _⟩, fr, q⟩
  · obtain ⟨its, rv, p', hz⟩ := I1.tuple hq
    exact call_enumT p' fun h' he hit hsz hk => wpAny_pyIter_enum he ⟨_, _, _, _, H1, rfl, I1.kept (t' := s1.toks) hk, turn_enumT a (s1.heap.objs.size + 1) s1.heap.objs.size, ⟨⟨.none, he⟩, hit, Nat.succ_ne_self _⟩, fr, q⟩
end Tw

set_option Elab.async false
set_option linter.all false
set_option maxRecDepth 100000
set_option maxHeartbeats 2000000
/-! own rules: min(xs, key=lambda x: ys[x]), ys a name of the def -/
namespace Cl
open PySem PySem.Spec PyProof.Rows L2 LamX
section
variable {prog : Program} {w : World} {A : Around} {E : Value → Shared → Prop} {s : Shared}
/-- what the lambda's scope must say -/
structure LSc (scope : Scope) (x y : Str) : Prop where
  kind : scope.kind = .function
  co : scope.isCoroutine = false
  gen : scope.isGenerator = false
  nocell : ∀ z ∈ scope.names, z.2 ≠ .cell
  px : scope.names.lookup x = some .local
  fy : scope.names.lookup y = some .free
/-- lambda x: y[x], called with an int -/
theorem lam_ix {f l c' ck : Addr} {q x y : Str} {params : Arguments} {p1 p2 p3 : Pos} {scope : Scope} {cl : List (Str × Addr)} {pm ctv u : Value} {vs : List Value} {i : Int} {t : Tok} {Q : Value → Shared → Prop}
    (S : LSc scope x y) (hd : A.depth < recursionLimit) (hf : s.heap.get? f = some (PySem.W.kla_obj "<lambda>" q params (.Subscript (.Name y p1) (.Name x p2) p3) scope cl pm c' ctv))
    (hbind : ∀ v : Value, bindArgs (PySem.W.kla_fn "<lambda>" q params (.Subscript (.Name y p1) (.Name x p2) p3) scope cl pm (.ref c') ctv) ⟨[v], []⟩ = pure [(x, v)])
    (hcode : ∃ (oc : Obj) (us : Array Value) (tk : Tok), s.heap.get? c' = some oc ∧ oc.data = .fields us ∧ us[1]? = some (.str q tk)) (hlim : s.heap.NoLimit)
    (hck : cl.lookup y = some ck) (hcell : s.heap.IsCell ck (some (.ref l))) (hl : s.heap.IsList l vs.toArray) (h0 : 0 ≤ i) (h1 : i < 2 ^ 63) (hi : vs[i.toNat]? = some u)
    (hdx : (x == ("__debug__" : Str)) = false) (hdy : (y == ("__debug__" : Str)) = false) (hcy : (y == ("__classdict__" : Str)) = false)
    (h : ∀ h' tk, s.toks ≤ tk → (∀ b o, s.heap.get? b = some o → h'.get? b = some o) → Q u { s with heap := h', toks := tk }) : wpAny (model prog w) A (call (.ref f) [.int i t]) Q E s := by
  obtain ⟨oc, us, tq, hoc, hdc, hvc⟩ := hcode
  refine wpAny_call (PySem.W.kla_callFunE hd hf rfl S.co S.gen rfl ⟨c', oc, us, tq, rfl, hoc, hdc, hvc⟩ ?_)
  rw [hbind]
  refine wpAny_pure (wpAny_newFunctionEnv S.nocell (fun z hz => by rw [List.mem_singleton.mp hz]; exact S.px) (fun h₁ hns hsb => ⟨hlim.fresh _ hsb, ?_⟩) S.kind)
  have kp : ∀ b o, s.heap.get? b = some o → h₁.get? b = some o := fun b o e => hsb.extBut b o (Nat.ne_of_lt (Heap.lt_size e)) (Heap.get?_push_of_some _ e)
  refine PySem.W.kla_codeExpr ?_
  refine wpAny_Subscript_Name list_getitem_lookup ?_
  refine wpAny_Name (wpAny_loadName_free S.kind S.fy hck (hcell.keeps kp) ?_ hcy) hdy
  refine wpAny_Name (wpAny_loadName_local S.kind S.px hns (v := .int i t) ?_ ?_) hdx
  · simp [List.lookup]
  · have hl' : h₁.IsList l vs.toArray := hl.at fun o e => kp _ _ e
    refine ⟨hl'.typeIs, wpAny_getItem_list hl' h0 h1 (by simpa using hi) ?_⟩
    exact h h₁ _ (by show s.toks ≤ s.toks + _; omega) kp
/-- what a lambda x: y[x] is, and what it reads -/
structure LamAt (h : Heap) (f : Addr) (x y : Str) (q : Str) (params : Arguments) (p1 p2 p3 : Pos) (scope : Scope) (cl : List (Str × Addr)) (pm ctv : Value) (c' ck l : Addr) (us : List Value) : Prop where
  fn : h.get? f = some (PySem.W.kla_obj "<lambda>" q params (.Subscript (.Name y p1) (.Name x p2) p3) scope cl pm c' ctv)
  code : ∃ (oc : Obj) (us : Array Value) (tk : Tok), h.get? c' = some oc ∧ oc.data = .fields us ∧ us[1]? = some (.str q tk)
  lim : h.NoLimit
  hck : cl.lookup y = some ck
  cell : h.IsCell ck (some (.ref l))
  lst : h.IsList l us.toArray
theorem LamAt.keeps {h h' : Heap} {f : Addr} {x y : Str} {q : Str} {params : Arguments} {p1 p2 p3 : Pos} {scope : Scope} {cl : List (Str × Addr)} {pm ctv : Value} {c' ck l : Addr} {us : List Value}
    (L : LamAt h f x y q params p1 p2 p3 scope cl pm ctv c' ck l us) (k : ∀ b o, h.get? b = some o → h'.get? b = some o) : LamAt h' f x y q params p1 p2 p3 scope cl pm ctv c' ck l us :=
  ⟨k _ _ L.fn, let ⟨oc, us, tk, a, b, c⟩ := L.code; ⟨oc, us, tk, k _ _ a, b, c⟩, L.lim.keeps k, L.hck, L.cell.keeps k, L.lst.at fun o e => k _ _ e⟩
theorem min_lam {f a l c' ck : Addr} {q x y : Str} {params : Arguments} {p1 p2 p3 : Pos} {scope : Scope} {cl : List (Str × Addr)} {pm ctv : Value} {cs us : List Value} {ns : Nat → Int} {kf : Nat → Int} {Q : Value → Shared → Prop}
    (hh : A.handled = none) (S : LSc scope x y) (hd : A.depth < recursionLimit) (L : LamAt s.heap f x y q params p1 p2 p3 scope cl pm ctv c' ck l us)
    (hbind : ∀ v : Value, bindArgs (PySem.W.kla_fn "<lambda>" q params (.Subscript (.Name y p1) (.Name x p2) p3) scope cl pm (.ref c') ctv) ⟨[v], []⟩ = pure [(x, v)])
    (hdx : (x == ("__debug__" : Str)) = false) (hdy : (y == ("__debug__" : Str)) = false) (hcy : (y == ("__classdict__" : Str)) = false)
    (ht : s.heap.IsTuple a cs.toArray) (hc : ∀ i, i < cs.length → ∃ t, cs[i]? = some (.int (ns i) t)) (hne : 0 < cs.length)
    (hk : ∀ i, i < cs.length → 0 ≤ ns i ∧ ns i < 2 ^ 63 ∧ ∃ t, us[(ns i).toNat]? = some (.int (kf i) t))
    (h : ∀ v h' tk, cs[argBest (fun i j => decide (kf i < kf j)) (cs.length - 1)]? = some v → (∀ b o, s.heap.get? b = some o → h'.get? b = some o) → Q v { s with heap := h', toks := tk }) :
    wpAny (model prog w) A (call (.builtin "min") [.ref a] [(Str.ofString "key", .ref f)]) Q E s := by
  have hd1 : A.in1.depth < recursionLimit := hd
  refine call_min_walkK (PySem.W.iter_tupleW (A := A.in1) hh ht fun s₂ e2 W st hfp hfr kp2 => ?_)
  have sz2 : s.heap.objs.size < s₂.heap.objs.size := hfp _ List.mem_cons_self
  have old : ∀ {s' : Shared}, Moved [s₂.heap.objs.size, s.heap.objs.size] (fun a b => b = a) s₂ s' → ∀ b o, s.heap.get? b = some o → s'.heap.get? b = some o := fun {s'} m b o e => by
    have lt := Heap.lt_size e
    refine m.heap b o (fun hm => ?_) (kp2 b o e)
    rcases List.mem_cons.mp hm with z | hm
    · rw [z] at lt
      exact Nat.lt_irrefl _ (Nat.lt_trans lt sz2)
    · rw [List.mem_singleton.mp hm] at lt
      exact Nat.lt_irrefl _ lt
  have szc : cs.toArray.size = cs.length := by simp
  refine ⟨s.heap.objs.size, [s.heap.objs.size, a], [s.heap.objs.size], (fun a b => b = a), cs.toArray.size, _, _, fun s' => Moved [s₂.heap.objs.size, s.heap.objs.size] (fun a b => b = a) s₂ s', fun i k _ => ∃ t, k = .int (kf i) t, fun i j => decide (kf i < kf j), rfl, W, st, hfp, by rw [szc]; exact hne, ⟨?_, ?_, ?_, ?_⟩, Moved.refl fun _ => rfl, ?_⟩
  · exact fun s1 s' J m => J.trans (fun _ _ _ h1 h2 => h2.trans h1) m
  · exact fun i k s1 s' v _ => v
  · intro i v s1 o Q' E' hi hP J stI hS cont
    rw [szc] at hi
    obtain ⟨t, ec⟩ := hc i hi
    have ev : v = .int (ns i) t := by
      have hP' : cs[i]? = some v := by simpa using hP
      rw [ec] at hP'
      exact (Option.some.inj hP').symm
    subst ev
    obtain ⟨h0, h1, tk, eu⟩ := hk i hi
    have L1 := L.keeps (old J)
    refine lam_ix S hd1 L1.fn hbind L1.code L1.lim L1.hck L1.cell L1.lst h0 h1 eu hdx hdy hcy fun h' tk' hle kp => ?_
    exact cont _ _ (J.then_heap hle fun b o _ e => kp b o e) (W.frame _ s1 h' tk' stI hle fun b _ o e => kp b o e) (kp _ _ hS) ⟨_, rfl⟩ fun j k' z => z
  · intro i j ki kj s1 Q' E' J vi vj q
    exact CmpOf.ints_lt (prog := prog) (w := w) (A := A.in1) (P := fun i v => ∃ t, v = .int (kf i) t) kf (fun i v h => h) i j ki kj s1 Q' E' vi vj q
  · intro v s' hP J
    rw [szc] at hP
    have hP' : cs[argBest (fun i j => decide (kf i < kf j)) (cs.length - 1)]? = some v := by simpa using hP
    have e : s' = { s with heap := s'.heap, toks := s'.toks } := by
      obtain ⟨hp, g, d, tk, os⟩ := s'
      subst e2
      have h1 : g = s.gens := J.gens
      have h2 : d = s.drawn := J.drawn
      have h3 : os = s.os := J.os
      subst h1 h2 h3
      rfl
    rw [e]
    exact h v s'.heap s'.toks hP' (old J)
end
/-- the first of the least -/
def FirstLeast (kf : Nat → Int) (n j : Nat) : Prop := j < n ∧ (∀ i, i < n → kf j ≤ kf i) ∧ ∀ i, i < j → kf j < kf i
theorem best_is (kf : Nat → Int) : ∀ n, FirstLeast kf (n + 1) (argBest (fun i j => decide (kf i < kf j)) n)
  | 0 => ⟨Nat.zero_lt_one, fun i h => by rw [Nat.lt_one_iff.mp h]; exact Int.le_refl _, fun i h => nomatch h⟩
  | n + 1 => by
    obtain ⟨a, b, c⟩ := best_is kf n
    show FirstLeast kf (n + 2) (if decide (kf (n + 1) < kf (argBest (fun i j => decide (kf i < kf j)) n)) = true then n + 1 else argBest (fun i j => decide (kf i < kf j)) n)
    by_cases h : kf (n + 1) < kf (argBest (fun i j => decide (kf i < kf j)) n)
    · rw [if_pos (decide_eq_true h)]
      refine ⟨by omega, fun i hi => ?_, fun i hi => ?_⟩
      · by_cases e : i = n + 1
        · rw [e]
          exact Int.le_refl _
        · have := b i (by omega)
          omega
      · have := b i (by omega)
        omega
    · rw [if_neg (fun z => h (of_decide_eq_true z))]
      refine ⟨by omega, fun i hi => ?_, c⟩
      by_cases e : i = n + 1
      · rw [e]
        omega
      · exact b i (by omega)
theorem first_one {kf : Nat → Int} {n i j : Nat} (a : FirstLeast kf n i) (b : FirstLeast kf n j) : i = j := by
  rcases Nat.lt_trichotomy i j with h | h | h
  · have h1 := b.2.2 i h
    have h2 := a.2.1 j b.1
    omega
  · exact h
  · have h1 := a.2.2 j h
    have h2 := b.2.1 i a.1
    omega
/-- the item of ns whose key in ks is the least, the first such one -/
def LeastAt (ks ns : List Int) (m : Int) : Prop := ∃ j, FirstLeast (fun i => ks.getD (ns.getD i 0).toNat 0) ns.length j ∧ m = ns.getD j 0
theorem _root_.LamX.ExtN.rd {H H' : Hp} (e : ExtN H H') {a : Addr} {u : HO} (n : ∀ ps, u ≠ .tbl ps) (h : Rd H a u) : Rd H' a u := by
  rcases h with h | ⟨o, h⟩
  · exact .inl (e _ _ h n)
  · exact .inr ⟨o, e _ _ h fun ps z => nomatch z⟩
theorem _root_.LamX.ExtN.sqL {K : PySem.W.Frag} {H H' : Hp} (e : ExtN H H') {a : Addr} {xs : List V} (h : SqL K H a xs) : SqL K H' a xs := h.elim (fun h => .inl (e.rd (fun ps z => nomatch z) h)) .inr
theorem _root_.LamX.ExtN.sqT {K : PySem.W.Frag} {H H' : Hp} (e : ExtN H H') {a : Addr} {xs : List V} (h : SqT K H a xs) : SqT K H' a xs := h.elim (fun h => .inl (e.rd (fun ps z => nomatch z) h)) .inr
section
variable {X : Cx}
def tMinLam (K : PySem.W.Frag) (T : List (Addr × Str)) (j : Nat) (te : TE) : TE := fun σ H Q => te σ H fun v H1 => ∃ (a l : Addr) (ns ks : List Int), v = .ref a ∧ SqT K H1 a (ns.map V.int) ∧ σ[j]? = some (some (.ref l)) ∧ SqL K H1 l (ks.map V.int) ∧ 0 < ns.length ∧ (∀ n ∈ ns, 0 ≤ n ∧ n < ks.length) ∧
  Tabs T H1 ∧ ∀ (m : Int) (H2 : Hp), ExtN H1 H2 → Tabs T H2 → LeastAt ks ns m → Q (.int m) H2
/-- min(e, key=lambda x: y[x]), y a name of the def that it shares with the lambda -/
theorem pe_minlam {T : List (Addr × Str)} {c P : Addr} {p p1 p2 p3 lpos kpos pos : Pos} {e : Expr} {te : TE} {x y : Str} {j : Nat} {params : Arguments} {scope : Scope}
    (hg : Gl X "min") (hm : X.mg "min" = none) (he : PE X e te) (hd : X.A.depth < recursionLimit) (hh : X.A.handled = none) (TB : TabB X.base X.mg c P) (hcode : X.env.code = .ref c) (hmT : (P, X.env.qual ++ "<lambda>") ∈ T)
    (hu : ∀ q ∈ T, q.1 = P → q.2 = X.env.qual ++ "<lambda>") (S : LSc scope x y) (hfy : X.env.scope.names.lookup y = some .cell) (hfr : ∀ z ∈ scope.names, z.2 = .free → z.1 = y) (hN : X.N[j]? = some y) (hdef : defaultsOf params X.env = ([], []))
    (hbind : ∀ (q : Str) (cl : List (Str × Addr)) (pm cv ctv v : Value), bindArgs (PySem.W.kla_fn "<lambda>" q params (.Subscript (.Name y p1) (.Name x p2) p3) scope cl pm cv ctv) ⟨[v], []⟩ = pure [(x, v)])
    (hs : starEach [e] X.env = (false, eval e X.env) :: starEach [] X.env := by rfl)
    (hdx : (x == ("__debug__" : Str)) = false := by decide) (hdy : (y == ("__debug__" : Str)) = false := by decide) (hcy : (y == ("__classdict__" : Str)) = false := by decide) :
    PE X (.Call (.Name "min" p) [e] [⟨some "key", .Lambda params (.Subscript (.Name y p1) (.Name x p2) p3) scope lpos, kpos⟩] pos) (tMinLam X.K T j te) := by
  refine ⟨fun pins s σ H Q I h => ?_⟩
  have hfree : ∀ z ∈ scope.names, z.2 = .free → ∃ c, X.env.cells.lookup z.1 = some c := fun z hz e => I.ok.has _ (.inl (by rw [hfr z hz e]; exact hfy))
  refine wpAny_Call_Name_kw (ld_blt I hg hm (u := .builtin "min") (by decide +kernel) ?_)
  refine PyProof.Rows.callWith_kw ?_ (by rw [hs]; rfl) (by rw [hs]; rfl) (by rfl) (by rfl)
  rw [hs]
  show wpAny _ _ (spliced ((false, eval e X.env) :: backTo pos (starEach [] X.env))) _ _ s
  refine Calls.spliced_cons (thn (he.run pins s σ H _ I h) fun u s1 ⟨v, H1, I1, r1, a, l, ns, ks, ev, ht, hσ, hl, hne, hin, hT, q⟩ => Calls.spliced_nil ?_)
  subst ev
  obtain rfl : u = Value.ref a := r1
  show wpAny _ _ (evalAll ((do let v ← eval (.Lambda params (.Subscript (.Name y p1) (.Name x p2) p3) scope lpos) X.env; standAt pos; pure v) :: [])) _ _ s1
  refine wpAny_evalAll_cons (wpAny_bind (lam_make2 I1 TB hcode hmT hu hT hdef hfree fun f c' pm ctv H2 s2 I2 eN T2 hf hfn hff hco => wpAny_bind (wpAny_standAt (wpAny_pure (wpAny_evalAll_nil ?_)))))
  show wpAny _ _ (call (.builtin "min") [.ref a] [(Str.ofString "key", .ref f)]) _ _ s2
  obtain ⟨cs, rc, tc, _⟩ := I2.tuple (eN.sqT ht)
  obtain ⟨us, ru, pl, hz2⟩ := I2.list (eN.sqL hl)
  obtain ⟨m, _, look⟩ := I2.loc
  obtain ⟨u0, r0, lk⟩ := look j y _ hN hσ (.inr (.inl hfy))
  obtain rfl : u0 = Value.ref l := r0
  have cellAt : ∃ ck, X.env.cells.lookup y = some ck ∧ s2.heap.IsCell ck (some (.ref l)) := by
    rcases lk with ⟨k, _⟩ | ⟨_, ck, e1, e2⟩
    · rw [show X.env.kindOf y = some .cell from hfy] at k
      cases k
    · exact ⟨ck, e1, e2⟩
  obtain ⟨ck, eck, hcell⟩ := cellAt
  obtain ⟨⟨oc, vs, tk, o1, o2, o3⟩, _, _⟩ := I2.hok c' _ hco
  have lc : cs.length = ns.length := by rw [← rc.length, List.length_map]
  have lu : us.length = ks.length := by rw [← ru.length, List.length_map]
  have nsAt : ∀ i, i < ns.length → ∃ t, cs[i]? = some (.int (ns.getD i 0) t) := fun i hi => by
    obtain ⟨z, ez, rz⟩ := rc.get (i := i) (x := V.int (ns.getD i 0)) (by rw [List.getElem?_map, List.getD_eq_getElem?_getD, List.getElem?_eq_getElem hi]; rfl)
    obtain ⟨t, rfl⟩ := rz
    exact ⟨t, ez⟩
  refine min_lam (ns := fun i => ns.getD i 0) (kf := fun i => ks.getD (ns.getD i 0).toNat 0) hh S hd ⟨hf, ⟨oc, vs, tk, o1, o2, o3⟩, I2.nolimit, NdefX.clo_has hfree (PySem.mem_of_lookup S.fy) eck, hcell, pl.isList⟩ (fun v => hbind _ _ _ _ _ v) hdx hdy hcy tc (fun i hi => nsAt i (by omega)) (by omega)
    (fun i hi => ?_) fun v h' tk2 hv kp => ?_
  · have hi' : i < ns.length := by omega
    have hmem : ns.getD i 0 ∈ ns := by rw [List.getD_eq_getElem?_getD, List.getElem?_eq_getElem hi']; exact List.getElem_mem hi'
    obtain ⟨b0, b1⟩ := hin _ hmem
    have hs63 := line63
    rw [List.length_map] at hz2
    have hk' : (ns.getD i 0).toNat < ks.length := by omega
    obtain ⟨z, ez, rz⟩ := ru.get (i := (ns.getD i 0).toNat) (x := V.int (ks.getD (ns.getD i 0).toNat 0)) (by rw [List.getElem?_map, List.getD_eq_getElem?_getD (l := ks), List.getElem?_eq_getElem hk']; rfl)
    obtain ⟨t, rfl⟩ := rz
    exact ⟨b0, by omega, t, ez⟩
  · obtain ⟨n, en⟩ : ∃ n, ns.length = n + 1 := ⟨ns.length - 1, by omega⟩
    have fl := best_is (fun i => ks.getD (ns.getD i 0).toNat 0) n
    rw [← en] at fl
    rw [lc, show ns.length - 1 = n by omega] at hv
    obtain ⟨t, et⟩ := nsAt _ fl.1
    rw [et] at hv
    cases hv
    exact ⟨.int _, H2, I2.kept kp, ⟨t, rfl⟩, q _ H2 eN T2 ⟨_, fl, rfl⟩⟩
end
end Cl

set_option Elab.async false
set_option linter.all false
set_option maxRecDepth 100000
set_option maxHeartbeats 2000000
/-! own rule: list(o), o an instance with an __iter__ over its tuple and a __len__ -/
namespace Tw
open PySem PySem.Spec PyProof.Rows L2
def rListO (K : PySem.W.Frag) (C : Addr) (fld : Str) (sp : Sp) (E : XK) : List V → Hp → VK → Prop := fun xs H Q => ∃ (a dx : Addr) (fs : List (Str × V)) (t : Addr) (zs : List V), xs = [.ref a] ∧ H a = some (.ins C dx fs) ∧ fs.lookup fld = some (.ref t) ∧ SqT K H t zs ∧ zs.length ≤ 900 ∧
  sp [.ref a] H (fun v H' => ∃ n : Nat, v = .int n ∧ n < 1000 ∧ H' = H) E ∧ ∀ q, H q = none → Q (.ref q) (upd H q (.lst zs))
theorem ty_ne {a b : String} (h : Value.type a = Value.type b) (n : decide (a = b) = false) : False := by
  injection h with h
  exact of_decide_eq_false n h
theorem if_yes {α : Type} {M : Model} {A : Around} {E : Value → Shared → Prop} {s : Shared} {c : Bool} {a b : Sem α} {Q : α → Shared → Prop} (hc : c = true) (h : wpAny M A a Q E s) : wpAny M A (if c = true then a else b) Q E s := by
  rw [hc, if_pos rfl]
  exact h
section
variable {X : Cx} {k : Nat} {f : Addr} {fd : FuncData} {ps : List Str} {sp : Sp} {A1 : Around} {pins : List (Addr × Obj)} {σ : L2.St} {H : Hp} {s : Shared} {Q : VK}
/-- a def that raises nothing, called within a built-in -/
theorem run_sub0 {us : List Value} {vs : List V} {R : Value → Shared → Prop} (F : FnOk X.prog X.w X.K X.mg X.base CX0 k f fd ps sp) (sb : Sub X k A1) (hb : L2.Binds X.K fd ps []) (I : Inv X pins σ H s) (r : Vals vs us) (h : sp vs H Q E0) :
    wpAny (model X.prog X.w) A1 (call (.ref f) us) (EP X pins σ Q) R s := by
  have hl : us.length = ps.length := by rw [← r.length]; exact F.len _ _ _ _ h
  have hb1 : BindsTo s fd ⟨us, []⟩ (ps.zip us) := by
    have z := hb s us I.kIn (by rw [List.append_nil]; exact hl)
    rw [List.append_nil] at z
    exact z
  refine wpAny_call (codeAny_mono (F.run A1 X.stack s H ⟨us, []⟩ us vs Q E0 sb.room (Sub.env0 sb I) hb1 r h) fun z s' hq => ?_)
  match z, hq with
  | .error e, hq => exact False.elim hq
  | .ok (.ret u), hq => exact I.after hq
  | .ok .next, hq => exact False.elim hq
  | .ok .brk, hq => exact False.elim hq
  | .ok .cont, hq => exact False.elim hq
end
section
variable {X : Cx} {kI k : Nat} {fi fl C : Addr} {fdI fdL : FuncData} {psL : List Str} {spL : Sp} {fld : Str}
theorem call_listO (hdI : Dn X.K C "__iter__" fi) (FI : FnIt X.prog X.w X.K X.mg X.base k fi fdI ["self"] (spIter X.K C fld)) (bI : L2.Binds X.K fdI ["self"] [])
    (hdL : Dn X.K C "__len__" fl) (FL : FnOk X.prog X.w X.K X.mg X.base CX0 k fl fdL psL spL) (bL : L2.Binds X.K fdL psL []) (hr : Room (k + 3) X.A) : CallR X (.type "list") (rListO X.K C fld spL E0) := by
  intro pins s σ H xs us Q I rv h
  obtain ⟨a, dx, fs, t, zs, rfl, ha, hf, ht, hz, hlen, q⟩ := h
  obtain ⟨u, rfl, ru⟩ := rv.one
  cases ru
  have sb1 : Sub X (k + 1) X.A.in1.in1 := Sub.in1 (Sub.in1 (⟨hr, rfl⟩ : Sub X (k + 3) X.A))
  have sb : Sub X k X.A.in1.in1 := sb1.mono (Nat.le_succ k)
  refine callType_codes (Q₁ := fun obj s₁ => obj = .ref s.heap.objs.size ∧ s₁ = { s with heap := s.heap.push { cls := .type "list", data := .seq #[] } }) PySem.F.called_list (PySem.F.typeCall_list_1 _) PySem.F.entry_list_init
    (code_list_new _ ⟨rfl, rfl⟩) fun obj s₁ h₁ => ?_
  obtain ⟨rfl, rfl⟩ := h₁
  have hS : (s.heap.push { cls := .type "list", data := .seq #[] }).get? s.heap.objs.size = some { cls := .type "list", data := .seq #[] } := Heap.get?_push_size _ rfl
  refine ⟨⟨_, hS, rfl⟩, PySem.F.args_list_init_2 _ _, ?_⟩
  have nS : H s.heap.objs.size = none := I.hok.fresh (Nat.le_refl _)
  have fS : FpOk X pins H s.heap.objs.size := I.fpOk (Nat.le_refl _) nS
  have I1 : Inv X pins σ H { s with heap := s.heap.push { cls := .type "list", data := .seq #[] } } := I.kept (t' := s.toks) fun b u e => Heap.get?_push_of_some _ e
  show wpAny _ _ (do let old ← Builtin.List.listItems (.ref s.heap.objs.size); Builtin.List.listUpdate (.ref s.heap.objs.size) (fun _ => #[]); letGo old.toList.reverse; Builtin.List.listExtendWith (.ref s.heap.objs.size) (.ref a) .none) _ _ _
  refine wpAny_bind ?_
  unfold Builtin.List.listItems
  refine wpAny_bind (wpAny_seqItems hS rfl (wpAny_pure ?_))
  show wpAny _ _ (updateSeq s.heap.objs.size (fun _ => #[]) >>= fun _ => letGo (#[] : Array Value).toList.reverse >>= fun _ => Builtin.List.listExtendWith (.ref s.heap.objs.size) (.ref a) .none) _ _ _
  refine wpAny_bind (wpAny_updateSeq hS rfl ?_)
  have hS2 := Heap.get?_update_self (h := s.heap.push { cls := .type "list", data := .seq #[] }) (f := Obj.mapSeq fun _ => #[]) hS rfl
  have I2 := I1.turnedL (h' := (s.heap.push { cls := .type "list", data := .seq #[] }).update s.heap.objs.size (Obj.mapSeq fun _ => #[])) (t' := s.toks) (ch := [s.heap.objs.size]) (fun b o hb e => (Heap.get?_update_other _ _ (fun z => hb (by simp [z]))).trans e) (fun b hb => by rw [List.mem_singleton.mp hb]; exact fS)
  refine wpAny_bind (wpAny_letGo ?_)
  generalize hSa : s.heap.objs.size = S at *
  generalize hh2 : (s.heap.push { cls := .type "list", data := .seq #[] }).update S (Obj.mapSeq fun _ => #[]) = h2 at *
  have szS : S < h2.objs.size := Heap.lt_size hS2
  obtain ⟨mA, O, rr, _, _, _⟩ := ins_get I2.hok ha
  obtain ⟨od, J, hl⟩ := O.look
  obtain ⟨m0, hF⟩ := I2.fr
  have hne : S ≠ a := fun z => by rw [← z] at ha; rw [nS] at ha; cases ha
  have h1 : Builtin.List.listSameRef (.ref S) (.ref a) = false := by simp [Builtin.List.listSameRef, hne]
  unfold Builtin.List.listExtendWith
  refine wpAny_bind (J.type.here ?_)
  have n2 : (Value.ref C == Value.type "list") = false := rfl
  have n3 : (Value.ref C == Value.type "tuple") = false := rfl
  simp only [h1, n2, n3, Bool.or_false, Bool.false_eq_true, if_false]
  have I2p := I2.pinned (fp := [S]) (fun b hb => by rw [List.mem_singleton.mp hb]; exact fS) (fun b hb => by rw [List.mem_singleton.mp hb]; exact ⟨_, hS2, fun v z => nomatch z⟩)
  refine wpAny_bind (PySem.W.owit_iter hF I2.ok.mod.kin J hdI.at_ hdI.fn (thn (run_iter FI sb bI I2p ha hf ht) fun r s3 ⟨it, er, hn, h0, I3⟩ => ?_))
  subst er
  have e2 : upd H it (ItT t it 0) it = some (ItT t it 0) := upd_same
  have g : s3.heap.get? it = some (itTup t 0) := (I3.hok it _ e2).1
  have hS3 := (I3.pin (S, _) (List.mem_append_right _ (List.mem_append_right _ (mem_pinsAt (List.mem_singleton.mpr rfl) hS2)))).1
  have hTy : s3.TypeIs (.ref it) "tuple_iterator" := ⟨_, g, rfl⟩
  have fIt := ItX.inv_fp I3 e2 (Nat.le_trans I2.sz hn)
  have I4 := ItX.inv_drop I3 e2
  rw [ItX.dropH_upd h0] at I4 fIt
  unfold PySem.W.OwitIt
  refine wpAny_specialOf (name := Str.ofString "__next__") hTy PySem.F.slot_tuple_iterator_next.lookup ?_
  have I5 := I4.pinned (fp := [it]) (fun b hb => by rw [List.mem_singleton.mp hb]; exact fIt) (fun b hb => by rw [List.mem_singleton.mp hb]; exact ⟨_, g, fun v z => nomatch z⟩)
  show wpAny _ X.A.in1.in1 (holding [.ref it] (Builtin.List.listLengthHint (.ref a)) >>= _) _ _ s3
  obtain ⟨mA5, O5, rr5, _, _, _⟩ := ins_get I5.hok ha
  obtain ⟨od5, J5, hl5⟩ := O5.look
  obtain ⟨m5, hF5⟩ := I5.fr
  refine wpAny_bind (wpAny_holding ?_)
  have lenOk : ∀ {R : Value → Shared → Prop}, wpAny (model X.prog X.w) X.A.in1.in1 (call (.builtin "len") [.ref a]) (fun r s' => ∃ (n : Nat) (tk : Tok), r = .int n tk ∧ n < 1000 ∧ Inv X (pins ++ pinsAt [S] h2 ++ pinsAt [it] s3.heap) σ H s') R s3 := by
    intro R
    refine PySem.W.len_K hF5 I5.ok.mod.kin J5 hdL.at_ hdL.fn (thn (run_sub0 FL (Sub.in1 (Sub.mono sb1 (Nat.le_refl _))) bL I5 (.cons (relR a) .nil) hlen) fun r s' ⟨z, H', I', rz, n, ez, hn, eH⟩ => ?_)
    subst ez
    rw [eH] at I'
    obtain ⟨tk, rfl⟩ := rz
    exact ⟨⟨by omega, by omega⟩, n, _, rfl, hn, I'.tok _⟩
  unfold Builtin.List.listLengthHint
  refine wpAny_bind (wpAny_bind (J5.type.here ((PySem.W.looks_findIn I5.kIn hdL.at_).here ?_)))
  refine PySem.W.KFB.if_not rfl ?_
  refine if_yes rfl ?_
  refine wpAny_bind (wpAny_rule ?_)
  refine wpAny_bind (wpAny_attempt (thn lenOk fun r s6 ⟨n, tk, er, hn6, I6⟩ => ?_))
  subst er
  refine wpAny_bind (wpAny_of_eq (a := some ((n : Nat) : Int)) (by rfl) ?_)
  refine PySem.W.KFB.if_not (by unfold Builtin.List.listTooLong; exact decide_eq_false (by rw [sizeLine_eq, Int.toNat_natCast]; omega)) ?_
  refine wpAny_pure ?_
  -- the loop
  have I7 : Inv X pins σ H s6 := I6.unpinned.unpinned
  have hS6 := (I6.pin (S, _) (List.mem_append_right _ (List.mem_append_left _ (List.mem_append_right _ (mem_pinsAt (List.mem_singleton.mpr rfl) hS2))))).1
  have g6 := (I6.pin (it, _) (List.mem_append_right _ (List.mem_append_right _ (mem_pinsAt (List.mem_singleton.mpr rfl) g)))).1
  have fIt2 : FpOk X pins H it := ⟨fIt.1, fIt.2.1, fIt.2.2.1, fIt.2.2.2.1, fIt.2.2.2.2.1, fun p hp => fIt.2.2.2.2.2 p ((List.mem_append.mp hp).elim (fun z => List.mem_append_left _ z) fun z => List.mem_append_right _ (List.mem_append_left _ z))⟩
  have Sne' : S ≠ it := fun z => by
    rw [z, g6] at hS6
    exact ty_ne (show Value.type "tuple_iterator" = Value.type "list" from congrArg Obj.cls (Option.some.inj hS6)) (by decide +kernel)
  have loop : ∀ (s7 : Shared) (c : Nat), Inv X pins σ H s7 → s7.heap.get? S = some { cls := .type "list", data := .seq #[] c } → s7.heap.get? it = some (itTup t 0) →
      codeAny (model X.prog X.w) X.A.in1 (.builtin "list.extend.loop" ⟨[.ref S, .ref it, .none], []⟩) (wants (fun r s₂ => r = .none ∧ EP X pins σ Q (.ref S) s₂) X.xe) s7 := by
    intro s7 c J7 hS7 g7
    obtain ⟨its, rz, pl, hz2⟩ := J7.tuple ht
    have tne : t ≠ it := fun z => by
      obtain ⟨o, e1, e2, _⟩ := pl
      rw [z, g7] at e1
      rw [← Option.some.inj e1] at e2
      exact ty_ne (show Value.type "tuple_iterator" = Value.type "tuple" from e2) (by decide +kernel)
    have Sne : S ≠ it := fun z => by
      rw [z, g7] at hS7
      exact ty_ne (show Value.type "tuple_iterator" = Value.type "list" from congrArg Obj.cls (Option.some.inj hS7)) (by decide +kernel)
    have St : S ≠ t := fun z => by
      obtain ⟨o, e1, e2, _⟩ := pl
      rw [← z, hS7] at e1
      rw [← Option.some.inj e1] at e2
      exact ty_ne (show Value.type "list" = Value.type "tuple" from e2) (by decide +kernel)
    have li : its.length = zs.length := rz.length.symm
    have W := (PySem.Walks.tuple (prog := X.prog) (w := X.w) (A := X.A.in1.in1) sb1.room.hd it t tne its.toArray).toS
    refine PySem.codeAny_extend_loopS (A := X.A.in1) W (by rw [List.size_toArray, sizeLine_eq]; omega) S (fun z => ?_) .none _ 0 s7 #[] c rfl (Nat.zero_le _) ⟨⟨_, g7, rfl, rfl⟩, pl⟩ hS7 (PySem.ItemsOf.nil _) fun s8 acc c8 m hS8 hit => ?_
    · rcases List.mem_cons.mp z with z | z
      · exact Sne z
      · exact St (List.mem_singleton.mp z)
    have eacc : acc = its.toArray := by
      refine Array.ext_getElem? fun j => ?_
      by_cases hj : j < acc.size
      · rw [Array.getElem?_eq_getElem hj]
        exact (hit.2 j _ (Array.getElem?_eq_getElem hj)).symm
      · rw [Array.getElem?_eq_none (by omega), Array.getElem?_eq_none (by rw [← hit.1]; omega)]
    subst eacc
    have J8 := J7.turnedL (h' := s8.heap) (t' := s8.toks) (ch := [S, it]) (fun b o hb e => m.heap b o hb e) (fun b hb => by
      rcases List.mem_cons.mp hb with z | z
      · rw [z]; exact fS
      · rw [List.mem_singleton.mp z]; exact fIt2)
    have J9 := J8.take (h' := s8.heap) (t' := s8.toks) (it := S) (o := .lst zs) (fun _ _ _ e => e) fS ⟨by rw [sizeLine_eq]; omega, its, c8, rz, hS8⟩
    have e8 : s8 = { s7 with heap := s8.heap, toks := s8.toks } := Moved.eq_with m
    rw [e8]
    exact ⟨rfl, .ref S, _, J9, rfl, q S nS⟩
  refine wpAny_ite_split (fun _ => ?_) (fun _ => wpAny_pure ⟨plainId_quiet PySem.F.plain_extend_loop _, loop s6 _ I7 hS6 g6⟩)
  refine wpAny_bind (wpAny_rule ?_)
  refine wpAny_bind ?_
  show wpAny _ _ (updateSeq S (·.push .none) >>= fun _ => updateSeq S (·.pop)) _ _ _
  refine wpAny_bind (wpAny_updateSeq hS6 rfl ?_)
  have e9 := Heap.get?_update_self (h := s6.heap) (f := Obj.mapSeq (·.push Value.none)) hS6 rfl
  refine wpAny_updateSeq e9 rfl ?_ (by show 1 ≤ sizeLine; rw [sizeLine_eq]; decide) (by show 0 ≤ sizeLine + 1; exact Nat.zero_le _)
  have e10 := Heap.get?_update_self (h := s6.heap.update S (Obj.mapSeq (·.push Value.none))) (f := Obj.mapSeq (·.pop)) e9 rfl
  have J := I7.turnedL (h' := (s6.heap.update S (Obj.mapSeq (·.push Value.none))).update S (Obj.mapSeq (·.pop))) (t' := s6.toks) (ch := [S]) (fun b o hb e => (Heap.get?_update_other _ _ (fun z => hb (by simp [z]))).trans ((Heap.get?_update_other _ _ (fun z => hb (by simp [z]))).trans e)) (fun b hb => by rw [List.mem_singleton.mp hb]; exact fS)
  refine wpAny_pure ⟨plainId_quiet PySem.F.plain_extend_loop _, loop _ _ J e10 ?_⟩
  exact (Heap.get?_update_other _ _ Sne').trans ((Heap.get?_update_other _ _ Sne').trans g6)
end
end Tw

set_option Elab.async false
set_option linter.all false
set_option maxRecDepth 100000
set_option maxHeartbeats 2000000
/-! own rule: sorted(t), t a tuple of whole numbers -/
namespace Tw
open PySem PySem.Spec PyProof.Rows L2
section
variable {prog : Program} {w : World} {A : Around} {E : Value → Shared → Prop} {s : Shared}
/-- a tuple's items, gathered: they are met as a list's are -/
theorem gather_tup {t : Addr} {vs : List Value} {Q : List Value → Shared → Prop} (ht : s.heap.IsTuple t vs.toArray)
    (h : Q vs { s with heap := (s.heap.push (seqObj "list" #[] 0)).update s.heap.objs.size (Obj.mapSeq (· ++ vs.toArray)) }) (hz : vs.length ≤ sizeLine) :
    wpAny (model prog w) A (collect (.ref t)) Q E s := by
  obtain ⟨o, ho, hc, n, hd⟩ := ht
  unfold collect
  refine wpAny_bind (wpAny_runValue (codeAny_builtin entry_proto_collect' ?_))
  show wpAny _ _ (do again (.builtin "list.__iadd__" ⟨[← newList [], .ref t], []⟩)) _ _ s
  refine wpAny_bind (wpAny_newList (wpAny_pure ⟨Code.quiet_builtin _ (by decide +kernel), codeAny_builtin entry_list_iadd' ?_⟩))
  show wpAny _ _ (Builtin.List.listExtendWith (.ref s.heap.objs.size) (.ref t) (.ref s.heap.objs.size)) _ _ { s with heap := s.heap.push (seqObj "list" #[] 0) }
  have ho2 : (s.heap.push (seqObj "list" #[] 0)).get? t = some o := Heap.get?_push_of_some _ ho
  unfold Builtin.List.listExtendWith
  refine wpAny_bind (wpAny_typeOf (T := "tuple") ⟨o, ho2, hc⟩ ?_)
  have tt : (Value.type "tuple" == Value.type "tuple") = true := by rfl
  rw [if_pos (by rw [tt]; simp)]
  refine wpAny_bind (listItems_at ho2 hd ?_)
  refine wpAny_bind (listItems_at (xs := #[]) (n := 0) (Heap.get?_push_size _ rfl) rfl ?_)
  rw [if_neg (by simp)]
  refine wpAny_bind (listUpdate_at (xs := #[]) (n := 0) (Heap.get?_push_size _ rfl) rfl ?_ (Nat.zero_le _) (by show (#[] ++ vs.toArray).size ≤ sizeLine + 1; simp only [Array.size_append, List.size_toArray, List.length_nil]; omega))
  refine wpAny_pure ?_
  refine wpAny_bind (wpAny_load (get?_update_seq (Heap.get?_push_size _ rfl) _) ?_)
  show wpAny _ _ (pure ((#[] : Array Value) ++ vs.toArray).toList) Q E _
  rw [show ((#[] : Array Value) ++ vs.toArray).toList = vs by simp]
  exact wpAny_pure h
end
def rSortedTu (K : PySem.W.Frag) : List V → Hp → VK → Prop := fun vs H Q => ∃ (a : Addr) (ns : List Int), vs = [V.ref a] ∧ SqT K H a (ns.map V.int) ∧
  ∀ (ns' : List Int) (p : Addr), ns'.Perm ns → ns'.Pairwise (· ≤ ·) → H p = none → Q (.ref p) (upd H p (.lst (ns'.map V.int)))
section
variable {X : Cx}
theorem cr_sortedTu : CallR X (.builtin "sorted") (rSortedTu X.K) := by
  intro pins s σ H vs us Q I r h
  obtain ⟨a, ns, rfl, hs, q⟩ := h
  obtain ⟨its, rv, hl, hz⟩ := I.tuple hs
  rw [Vals.ref1 r]
  have hi := rv.ints
  have hzi : its.length ≤ sizeLine := by rw [← rv.length]; exact hz
  refine Calls.call_function_entry kind_sorted plain_sorted entry_sorted (args_sorted1 _) ?_
  unfold Builtin.«sorted»
  refine wpAny_bind (m := checkCount "sorted" 1 1 _) (wpAny_pure ?_)
  refine wpAny_bind (gather_tup hl ?_ hzi)
  refine wpAny_bind (wpAny_newList ?_ hzi)
  have hsz : ((s.heap.push (seqObj "list" #[] 0)).update s.heap.objs.size (Obj.mapSeq (· ++ its.toArray))).objs.size = s.heap.objs.size + 1 := by
    rw [Heap.size_update, size_push']
  have hoL : (((s.heap.push (seqObj "list" #[] 0)).update s.heap.objs.size (Obj.mapSeq (· ++ its.toArray))).push (seqObj "list" its.toArray 0)).get? (s.heap.objs.size + 1) = some (seqObj "list" its.toArray 0) := by
    rw [← hsz]
    exact Heap.get?_push_size _ rfl
  show wpAny _ _ _ _ _ { s with heap := ((s.heap.push (seqObj "list" #[] 0)).update s.heap.objs.size (Obj.mapSeq (· ++ its.toArray))).push (seqObj "list" its.toArray 0) }
  rw [hsz]
  refine wpAny_bind (wpAny_holding (wpAny_call_entry slot_list_sort ⟨_, hoL, rfl⟩ entry_list_sort (SrtO.list_sort_ord SrtO.swo_int hoL hzi (fun h2 => SrtO.ints_sortable hi h2) fun out h1 h2 => ⟨_, rfl, ?_⟩) (args_list_sort _)))
  refine wpAny_pure ⟨_, rfl, ?_⟩
  obtain ⟨k1, k2, k3⟩ := SrtO.ints_out hi h1 h2
  obtain ⟨ep, he'⟩ := PyProof.Rows.sortedAll_at s.heap its out.toArray
  have hlen : ((out.map SrtO.iv).map V.int).length ≤ sizeLine := by
    rw [List.length_map, k2.length_eq]
    rw [List.length_map] at hz
    exact hz
  exact ⟨.ref _, upd H (s.heap.objs.size + 1) (.lst ((out.map SrtO.iv).map V.int)), I.laid (t' := s.toks) (fun _ _ => PyProof.Rows.sortedAll_old) (Nat.le_succ _) ⟨hlen, out, ep, vals_of_ints k1, he'⟩, rfl, q _ _ k2 k3 (I.hok.fresh (Nat.le_succ _))⟩
end
end Tw

set_option Elab.async false
set_option linter.all false
set_option maxRecDepth 100000
set_option maxHeartbeats 2000000
namespace Tw
open PySem PySem.Spec PyProof.Rows L2
def topS (i : Nat) : Stmt := PySem.Challenge.pw_heaprows_k09_whole_anew.main.body.getD i (.Pass ⟨0, 0, 0, 0⟩)
abbrev s_is_integer : Stmt := topS 15
theorem sc_is_integer : FnScope ["thing"] ["thing"] (defScope s_is_integer) := ⟨rfl, rfl, rfl, by decide +kernel, rfl, by decide +kernel, by decide +kernel⟩
abbrev s_is_integer_from : Stmt := topS 16
theorem sc_is_integer_from : FnScope ["thing", "least", "greatest"] ["thing", "least", "greatest"] (defScope s_is_integer_from) := ⟨rfl, rfl, rfl, by decide +kernel, rfl, by decide +kernel, by decide +kernel⟩
abbrev s_is_key : Stmt := topS 17
theorem sc_is_key : FnScope ["thing"] ["thing"] (defScope s_is_key) := ⟨rfl, rfl, rfl, by decide +kernel, rfl, by decide +kernel, by decide +kernel⟩
abbrev s_check_arms : Stmt := topS 18
theorem sc_check_arms : FnScope ["arms"] ["arms"] (defScope s_check_arms) := ⟨rfl, rfl, rfl, by decide +kernel, rfl, by decide +kernel, by decide +kernel⟩
abbrev s_check_many : Stmt := topS 19
theorem sc_check_many : FnScope ["many"] ["many"] (defScope s_check_many) := ⟨rfl, rfl, rfl, by decide +kernel, rfl, by decide +kernel, by decide +kernel⟩
abbrev s_check_place : Stmt := topS 20
theorem sc_check_place : FnScope ["place", "many"] ["place", "many"] (defScope s_check_place) := ⟨rfl, rfl, rfl, by decide +kernel, rfl, by decide +kernel, by decide +kernel⟩
abbrev s_check_key : Stmt := topS 21
theorem sc_check_key : FnScope ["key"] ["key"] (defScope s_check_key) := ⟨rfl, rfl, rfl, by decide +kernel, rfl, by decide +kernel, by decide +kernel⟩
abbrev s_row_of : Stmt := topS 22
theorem sc_row_of : FnScope ["row", "index", "key"] ["row"] (defScope s_row_of) := ⟨rfl, rfl, rfl, by decide +kernel, rfl, by decide +kernel, by decide +kernel⟩
abbrev s_t___init__ : Stmt := inClass (topS 24) 0
theorem sc_t___init__ : FnScope ["self", "many", "arms"] ["self", "many", "arms"] (defScope s_t___init__) := ⟨rfl, rfl, rfl, by decide +kernel, rfl, by decide +kernel, by decide +kernel⟩
abbrev s_t_of : Stmt := inClass (topS 24) 1
theorem sc_t_of : FnScope ["cls", "row", "arms"] ["cls", "row", "arms"] (defScope s_t_of) := ⟨rfl, rfl, rfl, by decide +kernel, rfl, by decide +kernel, by decide +kernel⟩
abbrev s_t___len__ : Stmt := inClass (topS 24) 2
theorem sc_t___len__ : FnScope ["self"] ["self"] (defScope s_t___len__) := ⟨rfl, rfl, rfl, by decide +kernel, rfl, by decide +kernel, by decide +kernel⟩
abbrev s_t___iter__ : Stmt := inClass (topS 24) 4
theorem sc_t___iter__ : FnScope ["self"] ["self"] (defScope s_t___iter__) := ⟨rfl, rfl, rfl, by decide +kernel, rfl, by decide +kernel, by decide +kernel⟩
abbrev s_t___getitem__ : Stmt := inClass (topS 24) 5
theorem sc_t___getitem__ : FnScope ["self", "place", "first"] ["self", "place"] (defScope s_t___getitem__) := ⟨rfl, rfl, rfl, by decide +kernel, rfl, by decide +kernel, by decide +kernel⟩
abbrev s_t_parent : Stmt := inClass (topS 24) 7
theorem sc_t_parent : FnScope ["self", "place"] ["self", "place"] (defScope s_t_parent) := ⟨rfl, rfl, rfl, by decide +kernel, rfl, by decide +kernel, by decide +kernel⟩
abbrev s_t_way_to : Stmt := inClass (topS 24) 8
theorem sc_t_way_to : FnScope ["self", "place", "way", "above"] ["self", "place"] (defScope s_t_way_to) := ⟨rfl, rfl, rfl, by decide +kernel, rfl, by decide +kernel, by decide +kernel⟩
abbrev s_t_subtree : Stmt := inClass (topS 24) 12
theorem sc_t_subtree : FnScope ["self", "place", "below"] ["self", "place"] (defScope s_t_subtree) := ⟨rfl, rfl, rfl, by decide +kernel, rfl, by decide +kernel, by decide +kernel⟩
abbrev s_faults : Stmt := topS 26
theorem sc_faults : FnScope ["row", "arms", "tree", "place"] ["row", "arms"] (defScope s_faults) := ⟨rfl, rfl, rfl, by decide +kernel, rfl, by decide +kernel, by decide +kernel⟩
abbrev s_falls : Stmt := topS 27
theorem sc_falls : FnScope ["row", "arms", "tree", "place", "below"] ["row", "arms"] (defScope s_falls) := ⟨rfl, rfl, rfl, by decide +kernel, rfl, by decide +kernel, by decide +kernel⟩
abbrev s_heap_of : Stmt := topS 28
theorem sc_heap_of : FnScope ["row", "arms", "wrong"] ["row", "arms"] (defScope s_heap_of) := ⟨rfl, rfl, rfl, by decide +kernel, rfl, by decide +kernel, by decide +kernel⟩
abbrev s_z___init__ : Stmt := inClass (topS 30) 0
theorem sc_z___init__ : FnScope ["self", "row", "way", "looks"] ["self", "row", "way", "looks"] (defScope s_z___init__) := ⟨rfl, rfl, rfl, by decide +kernel, rfl, by decide +kernel, by decide +kernel⟩
abbrev s_z___eq__ : Stmt := inClass (topS 30) 1
theorem sc_z___eq__ : FnScope ["self", "other"] ["self", "other"] (defScope s_z___eq__) := ⟨rfl, rfl, rfl, by decide +kernel, rfl, by decide +kernel, by decide +kernel⟩
abbrev s_sift_up : Stmt := topS 31
theorem sc_sift_up : FnScope ["row", "place", "arms", "tree", "above", "keys", "way", "looks", "parent", "here"] ["row", "place", "arms"] (defScope s_sift_up) := ⟨rfl, rfl, rfl, by decide +kernel, rfl, by decide +kernel, by decide +kernel⟩
abbrev s_sift_down : Stmt := topS 32
theorem sc_sift_down : FnScope ["row", "place", "arms", "tree", "children", "keys", "way", "looks", "here", "child"] ["row", "place", "arms"] (defScope s_sift_down) := ⟨rfl, rfl, rfl, by decide +kernel, rfl, by decide +kernel, by decide +kernel⟩
abbrev s_least_child : Stmt := topS 33
theorem sc_least_child : FnScope ["keys", "children"] ["keys", "children"] (defScope s_least_child) := ⟨rfl, rfl, rfl, by decide +kernel, rfl, by decide +kernel, by decide +kernel⟩
abbrev s_u___init__ : Stmt := inClass (topS 35) 0
theorem sc_u___init__ : FnScope ["self", "row", "stops", "changes", "looks", "stop"] ["self", "row", "stops", "changes", "looks"] (defScope s_u___init__) := ⟨rfl, rfl, rfl, by decide +kernel, rfl, by decide +kernel, by decide +kernel⟩
abbrev s_u___eq__ : Stmt := inClass (topS 35) 1
theorem sc_u___eq__ : FnScope ["self", "other"] ["self", "other"] (defScope s_u___eq__) := ⟨rfl, rfl, rfl, by decide +kernel, rfl, by decide +kernel, by decide +kernel⟩
abbrev s_push : Stmt := topS 36
theorem sc_push : FnScope ["row", "key", "arms", "heap"] ["row", "key", "arms"] (defScope s_push) := ⟨rfl, rfl, rfl, by decide +kernel, rfl, by decide +kernel, by decide +kernel⟩
abbrev s_take : Stmt := topS 37
theorem sc_take : FnScope ["row", "arms", "heap"] ["row", "arms"] (defScope s_take) := ⟨rfl, rfl, rfl, by decide +kernel, rfl, by decide +kernel, by decide +kernel⟩
abbrev s_build : Stmt := topS 38
theorem sc_build : FnScope ["row", "arms", "tree", "heap", "stops", "changes", "looks", "place", "sift"] ["row", "arms"] (defScope s_build) := ⟨rfl, rfl, rfl, by decide +kernel, rfl, by decide +kernel, by decide +kernel⟩
abbrev s_filled_heap_of : Stmt := topS 39
theorem sc_filled_heap_of : FnScope ["row", "arms", "heap"] ["row", "arms"] (defScope s_filled_heap_of) := ⟨rfl, rfl, rfl, by decide +kernel, rfl, by decide +kernel, by decide +kernel⟩
abbrev s_check_filled : Stmt := topS 40
theorem sc_check_filled : FnScope ["heap"] ["heap"] (defScope s_check_filled) := ⟨rfl, rfl, rfl, by decide +kernel, rfl, by decide +kernel, by decide +kernel⟩
abbrev s__law_number : Stmt := topS 42
theorem sc__law_number : FnScope ["script", "index", "cells", "cell", "low", "high", "total", "blend"] ["script", "index"] (defScope s__law_number) := ⟨rfl, rfl, rfl, by decide +kernel, rfl, by decide +kernel, by decide +kernel⟩
abbrev s__law_take : Stmt := topS 43
theorem sc__law_take : FnScope ["draw", "many"] ["draw", "many"] (defScope s__law_take) := ⟨rfl, rfl, rfl, by decide +kernel, rfl, by decide +kernel, by decide +kernel⟩
abbrev s__law_pick : Stmt := topS 44
theorem sc__law_pick : FnScope ["draw", "things"] ["draw", "things"] (defScope s__law_pick) := ⟨rfl, rfl, rfl, by decide +kernel, rfl, by decide +kernel, by decide +kernel⟩
abbrev s__law_arms : Stmt := topS 45
theorem sc__law_arms : FnScope ["draw"] ["draw"] (defScope s__law_arms) := ⟨rfl, rfl, rfl, by decide +kernel, rfl, by decide +kernel, by decide +kernel⟩
abbrev s__law_keys : Stmt := topS 46
theorem sc__law_keys : FnScope ["draw", "most", "span", "turn"] ["draw", "most", "span"] (defScope s__law_keys) := ⟨rfl, rfl, rfl, by decide +kernel, rfl, by decide +kernel, by decide +kernel⟩
abbrev s_law : Stmt := topS 47
theorem sc_law : FnScope ["script", "draw", "turn", "wide", "keys", "kept", "first", "second", "dues", "up", "down", "made", "heap", "least", "out", "due", "row", "way", "stops", "mine", "other", "some"] ["script"] (defScope s_law) := ⟨rfl, rfl, rfl, by decide +kernel, rfl, by decide +kernel, by decide +kernel⟩
/-- where the text's defs stand -/
structure Ad where
  f_is_integer : Addr
  d_is_integer : FuncData
  f_is_integer_from : Addr
  d_is_integer_from : FuncData
  f_is_key : Addr
  d_is_key : FuncData
  f_check_arms : Addr
  d_check_arms : FuncData
  f_check_many : Addr
  d_check_many : FuncData
  f_check_place : Addr
  d_check_place : FuncData
  f_check_key : Addr
  d_check_key : FuncData
  f_row_of : Addr
  d_row_of : FuncData
  f_t___init__ : Addr
  d_t___init__ : FuncData
  f_t_of : Addr
  d_t_of : FuncData
  f_t___len__ : Addr
  d_t___len__ : FuncData
  f_t___iter__ : Addr
  d_t___iter__ : FuncData
  f_t___getitem__ : Addr
  d_t___getitem__ : FuncData
  f_t_parent : Addr
  d_t_parent : FuncData
  f_t_way_to : Addr
  d_t_way_to : FuncData
  f_t_subtree : Addr
  d_t_subtree : FuncData
  f_faults : Addr
  d_faults : FuncData
  f_falls : Addr
  d_falls : FuncData
  f_heap_of : Addr
  d_heap_of : FuncData
  f_z___init__ : Addr
  d_z___init__ : FuncData
  f_z___eq__ : Addr
  d_z___eq__ : FuncData
  f_sift_up : Addr
  d_sift_up : FuncData
  f_sift_down : Addr
  d_sift_down : FuncData
  f_least_child : Addr
  d_least_child : FuncData
  f_u___init__ : Addr
  d_u___init__ : FuncData
  f_u___eq__ : Addr
  d_u___eq__ : FuncData
  f_push : Addr
  d_push : FuncData
  f_take : Addr
  d_take : FuncData
  f_build : Addr
  d_build : FuncData
  f_filled_heap_of : Addr
  d_filled_heap_of : FuncData
  f_check_filled : Addr
  d_check_filled : FuncData
  f__law_number : Addr
  d__law_number : FuncData
  f__law_take : Addr
  d__law_take : FuncData
  f__law_pick : Addr
  d__law_pick : FuncData
  f__law_arms : Addr
  d__law_arms : FuncData
  f__law_keys : Addr
  d__law_keys : FuncData
  f_law : Addr
  d_law : FuncData
  C : Addr
  po : Addr
  CS : Addr
  CB : Addr
  c_least_child : Addr
  P_least_child : Addr
/-- what the top has written -/
structure Tx (K : PySem.W.Frag) (mg : Str → Option Value) (A : Ad) : Prop where
  F_is_integer : Fun K "is_integer" "is_integer" s_is_integer A.f_is_integer A.d_is_integer
  m_is_integer : mg "is_integer" = some (.ref A.f_is_integer)
  F_is_integer_from : Fun K "is_integer_from" "is_integer_from" s_is_integer_from A.f_is_integer_from A.d_is_integer_from
  m_is_integer_from : mg "is_integer_from" = some (.ref A.f_is_integer_from)
  F_is_key : Fun K "is_key" "is_key" s_is_key A.f_is_key A.d_is_key
  m_is_key : mg "is_key" = some (.ref A.f_is_key)
  F_check_arms : Fun K "check_arms" "check_arms" s_check_arms A.f_check_arms A.d_check_arms
  m_check_arms : mg "check_arms" = some (.ref A.f_check_arms)
  F_check_many : Fun K "check_many" "check_many" s_check_many A.f_check_many A.d_check_many
  m_check_many : mg "check_many" = some (.ref A.f_check_many)
  F_check_place : Fun K "check_place" "check_place" s_check_place A.f_check_place A.d_check_place
  m_check_place : mg "check_place" = some (.ref A.f_check_place)
  F_check_key : Fun K "check_key" "check_key" s_check_key A.f_check_key A.d_check_key
  m_check_key : mg "check_key" = some (.ref A.f_check_key)
  F_row_of : Fun K "row_of" "row_of" s_row_of A.f_row_of A.d_row_of
  m_row_of : mg "row_of" = some (.ref A.f_row_of)
  F_t___init__ : FunD K "__init__" "Tree.__init__" (defArgs s_t___init__) (defBody s_t___init__) (defScope s_t___init__) [] [("arms", V.int 2)] A.f_t___init__ A.d_t___init__
  F_t_of : FunD K "of" "Tree.of" (defArgs s_t_of) (defBody s_t_of) (defScope s_t_of) [] [("arms", V.int 2)] A.f_t_of A.d_t_of
  F_t___len__ : Fun K "__len__" "Tree.__len__" s_t___len__ A.f_t___len__ A.d_t___len__
  D_t___len__ : Dn K A.C "__len__" A.f_t___len__
  F_t___iter__ : Fun K "__iter__" "Tree.__iter__" s_t___iter__ A.f_t___iter__ A.d_t___iter__
  D_t___iter__ : Dn K A.C "__iter__" A.f_t___iter__
  F_t___getitem__ : Fun K "__getitem__" "Tree.__getitem__" s_t___getitem__ A.f_t___getitem__ A.d_t___getitem__
  D_t___getitem__ : Dn K A.C "__getitem__" A.f_t___getitem__
  F_t_parent : Fun K "parent" "Tree.parent" s_t_parent A.f_t_parent A.d_t_parent
  M_t_parent : Meth K A.C "parent" A.f_t_parent
  F_t_way_to : Fun K "way_to" "Tree.way_to" s_t_way_to A.f_t_way_to A.d_t_way_to
  M_t_way_to : Meth K A.C "way_to" A.f_t_way_to
  F_t_subtree : Fun K "subtree" "Tree.subtree" s_t_subtree A.f_t_subtree A.d_t_subtree
  M_t_subtree : Meth K A.C "subtree" A.f_t_subtree
  F_faults : FunD K "faults" "faults" (defArgs s_faults) (defBody s_faults) (defScope s_faults) [] [("arms", V.int 2)] A.f_faults A.d_faults
  m_faults : mg "faults" = some (.ref A.f_faults)
  F_falls : FunD K "falls" "falls" (defArgs s_falls) (defBody s_falls) (defScope s_falls) [] [("arms", V.int 2)] A.f_falls A.d_falls
  m_falls : mg "falls" = some (.ref A.f_falls)
  F_heap_of : Fun K "heap_of" "heap_of" s_heap_of A.f_heap_of A.d_heap_of
  m_heap_of : mg "heap_of" = some (.ref A.f_heap_of)
  F_z___init__ : Fun K "__init__" "Sift.__init__" s_z___init__ A.f_z___init__ A.d_z___init__
  F_z___eq__ : Fun K "__eq__" "Sift.__eq__" s_z___eq__ A.f_z___eq__ A.d_z___eq__
  F_sift_up : FunD K "sift_up" "sift_up" (defArgs s_sift_up) (defBody s_sift_up) (defScope s_sift_up) [] [("arms", V.int 2)] A.f_sift_up A.d_sift_up
  m_sift_up : mg "sift_up" = some (.ref A.f_sift_up)
  F_sift_down : FunD K "sift_down" "sift_down" (defArgs s_sift_down) (defBody s_sift_down) (defScope s_sift_down) [] [("arms", V.int 2)] A.f_sift_down A.d_sift_down
  m_sift_down : mg "sift_down" = some (.ref A.f_sift_down)
  L_least_child : ∃ (oc : Value) (od : Option Addr) (kV doc pm : Value) (an : Option Addr) (ct : Value) (osl : Array (Option Value)), A.d_least_child = PySem.W.fnOf "least_child" "least_child" (defArgs s_least_child) (defBody s_least_child) (defScope s_least_child) .none kV doc pm an (.ref A.c_least_child) ct ∧ K.lookup A.f_least_child = some ⟨oc, od, .func A.d_least_child, osl⟩ ∧ PySem.W.codeIn K (.ref A.c_least_child) "least_child" = true
  F_least_child : Fun K "least_child" "least_child" s_least_child A.f_least_child A.d_least_child
  m_least_child : mg "least_child" = some (.ref A.f_least_child)
  F_u___init__ : Fun K "__init__" "Built.__init__" s_u___init__ A.f_u___init__ A.d_u___init__
  F_u___eq__ : Fun K "__eq__" "Built.__eq__" s_u___eq__ A.f_u___eq__ A.d_u___eq__
  F_push : FunD K "push" "push" (defArgs s_push) (defBody s_push) (defScope s_push) [] [("arms", V.int 2)] A.f_push A.d_push
  m_push : mg "push" = some (.ref A.f_push)
  F_take : FunD K "take" "take" (defArgs s_take) (defBody s_take) (defScope s_take) [] [("arms", V.int 2)] A.f_take A.d_take
  m_take : mg "take" = some (.ref A.f_take)
  F_build : FunD K "build" "build" (defArgs s_build) (defBody s_build) (defScope s_build) [] [("arms", V.int 2)] A.f_build A.d_build
  m_build : mg "build" = some (.ref A.f_build)
  F_filled_heap_of : Fun K "filled_heap_of" "filled_heap_of" s_filled_heap_of A.f_filled_heap_of A.d_filled_heap_of
  m_filled_heap_of : mg "filled_heap_of" = some (.ref A.f_filled_heap_of)
  F_check_filled : Fun K "check_filled" "check_filled" s_check_filled A.f_check_filled A.d_check_filled
  m_check_filled : mg "check_filled" = some (.ref A.f_check_filled)
  F__law_number : Fun K "_law_number" "_law_number" s__law_number A.f__law_number A.d__law_number
  m__law_number : mg "_law_number" = some (.ref A.f__law_number)
  F__law_take : Fun K "_law_take" "_law_take" s__law_take A.f__law_take A.d__law_take
  m__law_take : mg "_law_take" = some (.ref A.f__law_take)
  F__law_pick : Fun K "_law_pick" "_law_pick" s__law_pick A.f__law_pick A.d__law_pick
  m__law_pick : mg "_law_pick" = some (.ref A.f__law_pick)
  F__law_arms : Fun K "_law_arms" "_law_arms" s__law_arms A.f__law_arms A.d__law_arms
  m__law_arms : mg "_law_arms" = some (.ref A.f__law_arms)
  F__law_keys : Fun K "_law_keys" "_law_keys" s__law_keys A.f__law_keys A.d__law_keys
  m__law_keys : mg "_law_keys" = some (.ref A.f__law_keys)
  F_law : Fun K "law" "law" s_law A.f_law A.d_law
  m_law : mg "law" = some (.ref A.f_law)
  c_MOST_ARMS : mg "MOST_ARMS" = some (.int 4 0) ∨ ∃ t, mg "MOST_ARMS" = some (.int 4 t)
  c_MOST_PLACES : mg "MOST_PLACES" = some (.int 12 0) ∨ ∃ t, mg "MOST_PLACES" = some (.int 12 t)
  c_GREATEST_KEY : mg "GREATEST_KEY" = some (.int 1000000000 0) ∨ ∃ t, mg "GREATEST_KEY" = some (.int 1000000000 t)
  g_isinstance : mg "isinstance" = none
  g_int : mg "int" = none
  g_bool : mg "bool" = none
  g_len : mg "len" = none
  g_tuple : mg "tuple" = none
  g_list : mg "list" = none
  g_range : mg "range" = none
  g_enumerate : mg "enumerate" = none
  g_reversed : mg "reversed" = none
  g_min : mg "min" = none
  g_sum : mg "sum" = none
  g_iter : mg "iter" = none
  g_any : mg "any" = none
  g_sorted : mg "sorted" = none
  cT : Cls K A.C
  nMany : NoAttr K A.C "many"
  nArms : NoAttr K A.C "arms"
  nPl : NoAttr K A.C "_places"
  mC : mg "Tree" = some (.ref A.C)
  mkC : Mk K A.C A.f_t___init__
  cr : ClX.CRead K A.C (.type "type")
  cof : ClX.CMet K A.C (.type "type") "of" A.po A.f_t_of
  cTS : Cls K A.CS
  nRow : NoAttr K A.CS "row"
  nWay : NoAttr K A.CS "way"
  nLooks : NoAttr K A.CS "looks"
  mCS : mg "Sift" = some (.ref A.CS)
  mkCS : Mk K A.CS A.f_z___init__
  eqcS : EqC K A.CS A.f_z___eq__
  kaS : PySem.W.findIn K (.ref A.CS) "__class__" = some (some (.builtin "object.__class__"))
  knS : PySem.W.specialIn K (.builtin "object.__class__") "__get__" = some (some (.builtin "getset_descriptor.__get__"))
  ktkS : PySem.W.takesIn K (.builtin "object.__class__") = some true
  kmS : PySem.W.mroIn K A.CS (.type "object") = some true
  kiS_int : PySem.W.kitOne K (.type "int") (.ref A.CS) = some false
  kiS_tuple : PySem.W.kitOne K (.type "tuple") (.ref A.CS) = some false
  cTB : Cls K A.CB
  bRow : NoAttr K A.CB "row"
  bStops : NoAttr K A.CB "stops"
  bChanges : NoAttr K A.CB "changes"
  bLooks : NoAttr K A.CB "looks"
  mCB : mg "Built" = some (.ref A.CB)
  mkCB : Mk K A.CB A.f_u___init__
  eqcB : EqC K A.CB A.f_u___eq__
  kaB : PySem.W.findIn K (.ref A.CB) "__class__" = some (some (.builtin "object.__class__"))
  knB : PySem.W.specialIn K (.builtin "object.__class__") "__get__" = some (some (.builtin "getset_descriptor.__get__"))
  ktkB : PySem.W.takesIn K (.builtin "object.__class__") = some true
  kmB : PySem.W.mroIn K A.CB (.type "object") = some true
  kiB_int : PySem.W.kitOne K (.type "int") (.ref A.CB) = some false
  kiB_tuple : PySem.W.kitOne K (.type "tuple") (.ref A.CB) = some false
def TT (A : Ad) : List (Addr × Str) := [(A.P_least_child, ("least_child" : Str) ++ ".<locals>." ++ "<lambda>")]
section
variable {P : Program} {w : World} {K : PySem.W.Frag} {mg : Str → Option Value} {base : Heap} {A : Ad}
theorem cst {x : Str} {n : Int} (h : mg x = some (.int n 0) ∨ ∃ t, mg x = some (.int n t)) : ∃ t, mg x = some (.int n t) := h.elim (fun e => ⟨0, e⟩) id

/-- True just for ints -/
def spIs (K : PySem.W.Frag) : Sp := fun vs H Q _ => ∃ x : V, vs = [x] ∧
  ((∃ i, x = .int i ∧ Q (.bl true) H) ∨ (∃ n b1 b2, TyX K H x (.type n) ∧ kitB n "int" = some b1 ∧ kitB n "bool" = some b2 ∧ (b1 && !b2) = false ∧ Q (.bl false) H))
theorem ok_is (T : Tx K mg A) : FnOk P w K mg base CX0 1 A.f_is_integer A.d_is_integer ["thing"] (spIs K) := by
  refine T.F_is_integer.ok sc_is_integer (fun vs H Q E h => ?_) (fun cdv B outer s H vs Q E hr h => ?_)
  · obtain ⟨x, rfl, _⟩ := h
    rfl
  · obtain ⟨x, rfl, h⟩ := h
    refine ⟨_, pss_one (ps_ret (pe_and (pe_callB call_isi (by rfl) T.g_isinstance (by decide +kernel) (pa_cons (pv 0) (pa_cons (pe_bltn (v := .ty "int") (by rfl) T.g_int (by decide +kernel) rfl) pa_nil)))
      (pe_one (pe_not (pe_callB call_isi (by rfl) T.g_isinstance (by decide +kernel) (pa_cons (pv 0) (pa_cons (pe_bltn (v := .ty "bool") (by rfl) T.g_bool (by decide +kernel) rfl) pa_nil))))))), ?_⟩
    rcases h with ⟨i, rfl, q⟩ | ⟨n, b1, b2, ty, k1, k2, hb, q⟩
    · refine ⟨_, rfl, _, _, .type "int", .type "int", true, rfl, .ty "int", .base (.int i), kit_ty (by decide +kernel), true, rfl, iteT ?_⟩
      exact ⟨_, rfl, _, _, .type "int", .type "bool", false, rfl, .ty "bool", .base (.int i), kit_ty (by decide +kernel), false, rfl, q⟩
    · refine ⟨_, rfl, _, _, .type n, .type "int", b1, rfl, .ty "int", ty, kit_ty k1, b1, rfl, ?_⟩
      cases b1 with
      | false => exact iteF q
      | true =>
        cases b2 with
        | false => cases hb
        | true => exact iteT ⟨_, rfl, _, _, .type n, .type "bool", true, rfl, .ty "bool", ty, kit_ty k2, true, rfl, q⟩
theorem b_is (T : Tx K mg A) : L2.Binds K A.d_is_integer ["thing"] [] := T.F_is_integer.binds fun _ _ _ _ _ _ us hl => match us, hl with | [_], _ => rfl
/-- True just for ints within; other things by their class -/
def spII (K : PySem.W.Frag) : Sp := fun vs H Q _ => ∃ (x : V) (a b : Int), vs = [x, .int a, .int b] ∧
  ((∃ i, x = .int i ∧ Q (.bl (decide (a ≤ i ∧ i ≤ b))) H) ∨ (∃ n b1 b2, TyX K H x (.type n) ∧ kitB n "int" = some b1 ∧ kitB n "bool" = some b2 ∧ (b1 && !b2) = false ∧ Q (.bl false) H))
theorem ok_ii (T : Tx K mg A) : FnOk P w K mg base CX0 2 A.f_is_integer_from A.d_is_integer_from ["thing", "least", "greatest"] (spII K) := by
  refine T.F_is_integer_from.ok sc_is_integer_from (fun vs H Q E h => ?_) (fun cdv B outer s H vs Q E hr h => ?_)
  · obtain ⟨x, a, b, rfl, _⟩ := h
    rfl
  · obtain ⟨x, a, b, rfl, h⟩ := h
    refine ⟨_, pss_one (ps_ret (pe_and (pe_call (ok_is T) hr (by rfl) T.m_is_integer T.F_is_integer.kp (b_is T) .nil pass0 (pa_cons (pv 0) pa_nil))
        (pe_one (pe_chain op_le op_le (pv 1) (pv 0) (pv 2))))), ?_⟩
    rcases h with ⟨i, rfl, q⟩ | h
    · refine ⟨_, rfl, _, rfl, .inl ⟨i, rfl, true, rfl, iteT ?_⟩⟩
      refine ⟨_, rfl, _, rfl, _, _, rfl, rfl, _, rfl, ?_⟩
      by_cases h1 : a ≤ i
      · rw [decide_eq_true h1]
        refine iteT ⟨_, rfl, _, _, rfl, rfl, ?_⟩
        have e : decide (a ≤ i ∧ i ≤ b) = decide (i ≤ b) := by simp [h1]
        rw [e] at q
        exact q
      · rw [decide_eq_false h1]
        have e : decide (a ≤ i ∧ i ≤ b) = false := by simp [h1]
        rw [e] at q
        exact iteF q
    · obtain ⟨n, b1, b2, ty, k1, k2, hb, q⟩ := h
      exact ⟨_, rfl, _, rfl, .inr ⟨n, b1, b2, ty, k1, k2, hb, false, rfl, iteF q⟩⟩
theorem b_ii (T : Tx K mg A) : L2.Binds K A.d_is_integer_from ["thing", "least", "greatest"] [] := T.F_is_integer_from.binds fun _ _ _ _ _ _ us hl => match us, hl with | [_, _, _], _ => rfl

/-- is_key of an int -/
def spKey : Sp := fun vs H Q _ => ∃ i : Int, vs = [.int i] ∧ Q (.bl (decide (-1000000000 ≤ i ∧ i ≤ 1000000000))) H
theorem ok_key (T : Tx K mg A) : FnOk P w K mg base CX0 3 A.f_is_key A.d_is_key ["thing"] spKey := by
  refine T.F_is_key.ok sc_is_key (fun vs H Q E h => ?_) (fun cdv B outer s H vs Q E hr h => ?_)
  · obtain ⟨i, rfl, _⟩ := h
    rfl
  · obtain ⟨i, rfl, q⟩ := h
    obtain ⟨t, hg⟩ := cst T.c_GREATEST_KEY
    refine ⟨_, pss_one (ps_ret (pe_call (ok_ii T) hr (by rfl) T.m_is_integer_from T.F_is_integer_from.kp (b_ii T) .nil pass0
      (pa_cons (pv 0) (pa_cons (pe_un un_neg (pe_glob (by rfl) hg (relI _ _))) (pa_cons (pe_glob (by rfl) hg (relI _ _)) pa_nil))))), ?_⟩
    exact ⟨_, rfl, _, rfl, _, _, _, rfl, .inl ⟨i, rfl, q⟩⟩
theorem b_key (T : Tx K mg A) : L2.Binds K A.d_is_key ["thing"] [] := T.F_is_key.binds fun _ _ _ _ _ _ us hl => match us, hl with | [_], _ => rfl
def spCa : Sp := fun vs H Q _ => ∃ i : Int, vs = [.int i] ∧ (1 ≤ i ∧ i ≤ 4) ∧ Q .non H
theorem ok_ca (T : Tx K mg A) : FnOk P w K mg base CX0 3 A.f_check_arms A.d_check_arms ["arms"] spCa := by
  refine T.F_check_arms.ok sc_check_arms (fun vs H Q E h => ?_) (fun cdv B outer s H vs Q E hr h => ?_)
  · obtain ⟨i, rfl, _⟩ := h
    rfl
  · obtain ⟨i, rfl, hi, q⟩ := h
    obtain ⟨t, hg⟩ := cst T.c_MOST_ARMS
    refine ⟨_, pss_one (ps_if (pt_not (pt_val (pe_call (ok_ii T) hr (by rfl) T.m_is_integer_from T.F_is_integer_from.kp (b_ii T) .nil pass0
      (pa_cons (pv 0) (pa_cons pe_int (pa_cons (pe_glob (by rfl) hg (relI _ _)) pa_nil)))))) (pss_one ps_never) pss_nil), ?_⟩
    refine ⟨_, rfl, _, _, _, rfl, .inl ⟨i, rfl, _, rfl, ?_⟩⟩
    rw [decide_eq_true hi]
    exact iteF q
theorem b_ca (T : Tx K mg A) : L2.Binds K A.d_check_arms ["arms"] [] := T.F_check_arms.binds fun _ _ _ _ _ _ us hl => match us, hl with | [_], _ => rfl
def spCm : Sp := fun vs H Q _ => ∃ i : Int, vs = [.int i] ∧ (0 ≤ i ∧ i ≤ 12) ∧ Q .non H
theorem ok_cm (T : Tx K mg A) : FnOk P w K mg base CX0 3 A.f_check_many A.d_check_many ["many"] spCm := by
  refine T.F_check_many.ok sc_check_many (fun vs H Q E h => ?_) (fun cdv B outer s H vs Q E hr h => ?_)
  · obtain ⟨i, rfl, _⟩ := h
    rfl
  · obtain ⟨i, rfl, hi, q⟩ := h
    obtain ⟨t, hg⟩ := cst T.c_MOST_PLACES
    refine ⟨_, pss_one (ps_if (pt_not (pt_val (pe_call (ok_ii T) hr (by rfl) T.m_is_integer_from T.F_is_integer_from.kp (b_ii T) .nil pass0
      (pa_cons (pv 0) (pa_cons pe_int (pa_cons (pe_glob (by rfl) hg (relI _ _)) pa_nil)))))) (pss_one ps_never) pss_nil), ?_⟩
    refine ⟨_, rfl, _, _, _, rfl, .inl ⟨i, rfl, _, rfl, ?_⟩⟩
    rw [decide_eq_true hi]
    exact iteF q
theorem b_cm (T : Tx K mg A) : L2.Binds K A.d_check_many ["many"] [] := T.F_check_many.binds fun _ _ _ _ _ _ us hl => match us, hl with | [_], _ => rfl
def spCp : Sp := fun vs H Q _ => ∃ i n : Int, vs = [.int i, .int n] ∧ (0 ≤ i ∧ i < n) ∧ Q .non H
theorem ok_cp (T : Tx K mg A) : FnOk P w K mg base CX0 3 A.f_check_place A.d_check_place ["place", "many"] spCp := by
  refine T.F_check_place.ok sc_check_place (fun vs H Q E h => ?_) (fun cdv B outer s H vs Q E hr h => ?_)
  · obtain ⟨i, n, rfl, _⟩ := h
    rfl
  · obtain ⟨i, n, rfl, hi, q⟩ := h
    refine ⟨_, pss_one (ps_if (pt_not (pt_val (pe_call (ok_ii T) hr (by rfl) T.m_is_integer_from T.F_is_integer_from.kp (b_ii T) .nil pass0
      (pa_cons (pv 0) (pa_cons pe_int (pa_cons (pe_op op_sub (pv 1) pe_int) pa_nil)))))) (pss_one ps_never) pss_nil), ?_⟩
    refine ⟨_, rfl, _, rfl, _, _, rfl, rfl, _, _, _, rfl, .inl ⟨i, rfl, _, rfl, ?_⟩⟩
    rw [decide_eq_true (show 0 ≤ i ∧ i ≤ n - 1 by omega)]
    exact iteF q
theorem b_cp (T : Tx K mg A) : L2.Binds K A.d_check_place ["place", "many"] [] := T.F_check_place.binds fun _ _ _ _ _ _ us hl => match us, hl with | [_, _], _ => rfl
/-- a list or a tuple -/
def Sq (H : Hp) (a : Addr) (xs : List V) : Prop := H a = some (.lst xs) ∨ H a = some (.tup xs)
theorem Sq.same {H H' : Hp} {a : Addr} {xs : List V} (h : Sq H a xs) (s : Same H H') : Sq H' a xs := h.elim (fun e => .inl (s _ _ e)) fun e => .inr (s _ _ e)
theorem Sq.len {K : PySem.W.Frag} {H : Hp} {a : Addr} {xs : List V} (h : Sq H a xs) : SqL K H a xs ∨ SqT K H a xs := h.elim (fun e => .inl (SqL.of e)) fun e => .inr (SqT.of e)
/-- keys go in, a tuple of them comes out -/
def spRow (K : PySem.W.Frag) : Sp := fun vs H Q _ => ∃ (a : Addr) (ns : List Int), vs = [.ref a] ∧ Sq H a (ns.map V.int) ∧ ns.length ≤ 12 ∧ (∀ n ∈ ns, -1000000000 ≤ n ∧ n ≤ 1000000000) ∧
  ∀ H' p, Same H H' → H' p = some (.tup (ns.map V.int)) → Q (.ref p) H'
theorem ok_row (T : Tx K mg A) : FnOk P w K mg base CX0 4 A.f_row_of A.d_row_of ["row"] (spRow K) := by
  refine T.F_row_of.ok sc_row_of (fun vs H Q E h => ?_) (fun cdv B outer s H vs Q E hr h => ?_)
  · obtain ⟨a, ns, rfl, _⟩ := h
    rfl
  · obtain ⟨a, ns, rfl, ha, hl, hk, q⟩ := h
    obtain ⟨t, hg⟩ := cst T.c_MOST_PLACES
    refine ⟨_, pss_cons (ps_if (PW.pt (pw_or (pt_not (pt_val (pe_callB call_isiT (by rfl) T.g_isinstance (by decide +kernel) (pa_cons (pv 0) (pa_cons (pe_tup (pa_cons (pe_bltn (v := .ty "list") (by rfl) T.g_list (by decide +kernel) rfl) (pa_cons (pe_bltn (v := .ty "tuple") (by rfl) T.g_tuple (by decide +kernel) rfl) pa_nil))) pa_nil)))))
        (pw_or1 (pt_cmpR op_gt (pe_callB call_len_seq (by rfl) T.g_len PySem.boot_len (pa_cons (pv 0) pa_nil)) (pe_glob (by rfl) hg (relI _ _)) (nomark _))))) (pss_one ps_never) pss_nil)
      (C8.pss_cut (ps_for PassesOwn.never rfl (pi_enS (by rfl) T.g_enumerate (pa_cons (pv 0) pa_nil)) (pg_tup rfl (pgs_cons (pg_name (i := 1) sc_row_of.nd rfl (Or.inl rfl)) (pgs_cons (pg_name (i := 2) sc_row_of.nd rfl (Or.inl rfl)) pgs_nil)))
        (pss_one (ps_if (pt_not (pt_val (pe_call (ok_key T) hr (by rfl) T.m_is_key T.F_is_key.kp (b_key T) .nil pass0 (pa_cons (pv 2) pa_nil)))) (pss_one ps_never) pss_nil)))
      (pss_one (ps_ret (pe_callTy call_tuple_of (by rfl) T.g_tuple (by decide +kernel) (pa_cons (pv 0) pa_nil))))), ?_⟩
    refine ⟨_, rfl, by show 2 ≤ sizeLine; decide, fun tp htp => ?_⟩
    have ha1 : Sq (upd H tp (.tup [.ty "list", .ty "tuple"])) a (ns.map V.int) := ha.same (Same.up htp)
    have isi : ∃ c b1, TyX K (upd H tp (.tup [.ty "list", .ty "tuple"])) (.ref a) (.type c) ∧ PySem.W.kitOne K (.type c) (.type "list") = some b1 ∧ (b1 = false → PySem.W.kitOne K (.type c) (.type "tuple") = some true) := by
      rcases ha1 with h | h
      · exact ⟨"list", true, .base (.lst h), kit_ty (by decide +kernel), fun z => by cases z⟩
      · exact ⟨"tuple", false, .base (.tup h), kit_ty (by decide +kernel), fun _ => kit_ty (by decide +kernel)⟩
    obtain ⟨c, b1, ty, k1, k2⟩ := isi
    refine ⟨_, tp, _, .type c, [.type "list", .type "tuple"], true, rfl, upd_same, .cons (.ty _) (.cons (.ty _) .nil), ty, kitAny_cons k1 (fun z => kitAny_cons (k2 z) (fun z => by cases z) (fun _ => rfl)) (fun _ => rfl), true, rfl, ?_⟩
    refine iteF ⟨_, rfl, a, _, rfl, ha1.len, _, _, rfl, rfl, _, rfl, ite2 (fun z => ?_) (fun _ => ?_)⟩
    · exfalso
      rw [List.length_map] at z
      have := of_decide_eq_true z
      omega
    refine ⟨fun σ H' => ∃ z y, σ = [some (.ref a), z, y] ∧ Same H H', ?_, ?_⟩
    · rcases ha with ha | ha
      · refine ⟨_, rfl, a, _, rfl, .inl ⟨SqL.of ((Same.up htp) _ _ ha), for_it (walk_enum (xs := ns.map V.int)) (fun i σ H' => ∃ z y, σ = [some (.ref a), z, y] ∧ Same H H') ⟨none, none, rfl, Same.up htp⟩ (fun i σ H' _ ⟨_, _, _, s⟩ => SqL.of (s _ _ ha)) ?_ ?_⟩⟩
        · rintro i v σ H2 H3 hi ⟨z, y, rfl, s⟩ ⟨T', x, x2, rfl, hT, rfl, e1, e2⟩
          obtain ⟨hi', rfl⟩ := ints_at e2
          cases e1
          refine ⟨_, _, rfl, SqT.of upd_same, rfl, _, _, rfl, _, _, rfl, rfl, ?_⟩
          refine ⟨_, rfl, _, rfl, _, rfl, ?_⟩
          rw [decide_eq_true (hk _ (List.getElem_mem hi'))]
          exact iteF ⟨_, _, rfl, s.trans (Same.up hT)⟩
        · rintro σ H2 ⟨z, y, rfl, s⟩
          exact ⟨_, _, rfl, s⟩
      · refine ⟨_, rfl, a, _, rfl, .inr ⟨SqT.of ((Same.up htp) _ _ ha), for_it (walk_enumT (xs := ns.map V.int)) (fun i σ H' => ∃ z y, σ = [some (.ref a), z, y] ∧ Same H H') ⟨none, none, rfl, Same.up htp⟩ (fun i σ H' _ ⟨_, _, _, s⟩ => SqT.of (s _ _ ha)) ?_ ?_⟩⟩
        · rintro i v σ H2 H3 hi ⟨z, y, rfl, s⟩ ⟨T', x, x2, rfl, hT, rfl, e1, e2⟩
          obtain ⟨hi', rfl⟩ := ints_at e2
          cases e1
          refine ⟨_, _, rfl, SqT.of upd_same, rfl, _, _, rfl, _, _, rfl, rfl, ?_⟩
          refine ⟨_, rfl, _, rfl, _, rfl, ?_⟩
          rw [decide_eq_true (hk _ (List.getElem_mem hi'))]
          exact iteF ⟨_, _, rfl, s.trans (Same.up hT)⟩
        · rintro σ H2 ⟨z, y, rfl, s⟩
          exact ⟨_, _, rfl, s⟩
    · rintro σ H2 ⟨z, y, rfl, s⟩
      rcases ha with ha | ha
      · exact ⟨_, rfl, a, _, rfl, .inl ⟨SqL.of (s _ _ ha), fun p hp => q _ _ (s.trans (Same.up hp)) upd_same⟩⟩
      · exact ⟨_, rfl, a, _, rfl, .inr ⟨SqT.of (s _ _ ha), q _ _ s (s _ _ ha)⟩⟩
theorem b_row (T : Tx K mg A) : L2.Binds K A.d_row_of ["row"] [] := T.F_row_of.binds fun _ _ _ _ _ _ us hl => match us, hl with | [_], _ => rfl

end

end Tw

set_option Elab.async false
set_option linter.all false
set_option maxRecDepth 100000
set_option maxHeartbeats 2000000
namespace Tw
open PySem PySem.Spec PyProof.Rows L2
section
variable {P : Program} {w : World} {K : PySem.W.Frag} {mg : Str → Option Value} {base : Heap} {A : Ad}
/-! the tree -/
/-- the places of a tree -/
def pl (n : Nat) : List V := (List.range n).map fun i => V.int (i : Nat)
theorem rg_pl (n : Nat) : rgV 0 (n : Int) = pl n := by
  unfold rgV pl
  rw [show ((n : Int) - 0).toNat = n by omega]
  exact congrArg (fun f => (List.range n).map f) (funext fun i => by rw [Int.zero_add])
theorem n1 : ¬ (("many" : Str) = "arms") := by decide +kernel
theorem n2 : ¬ (("many" : Str) = "_places") := by decide +kernel
theorem n3 : ¬ (("arms" : Str) = "_places") := by decide +kernel
/-- its attributes -/
def tf (n w t : Nat) : List (Str × V) := putF "_places" (.ref t) (putF "arms" (.int w) (putF "many" (.int n) []))
theorem tf_eq (n w t : Nat) : tf n w t = ([("many", V.int n), ("arms", V.int w), ("_places", V.ref t)] : List (Str × V)) := by
  unfold tf
  simp only [putF, n1, n2, n3, if_false]
theorem tf_many (n w t : Nat) : (tf n w t).lookup ("many" : Str) = some (.int n) := by
  unfold tf
  rw [lookup_putF, if_neg n2, lookup_putF, if_neg n1, lookup_putF, if_pos rfl]
theorem tf_arms (n w t : Nat) : (tf n w t).lookup ("arms" : Str) = some (.int w) := by
  unfold tf
  rw [lookup_putF, if_neg n3, lookup_putF, if_pos rfl]
theorem tf_pl (n w t : Nat) : (tf n w t).lookup ("_places" : Str) = some (.ref t) := by
  unfold tf
  rw [lookup_putF, if_pos rfl]
theorem tf_no (n w t : Nat) {m : Str} (h1 : ¬ m = "many") (h2 : ¬ m = "arms") (h3 : ¬ m = "_places") : (tf n w t).lookup m = none := by
  unfold tf
  rw [lookup_putF, if_neg h3, lookup_putF, if_neg h2, lookup_putF, if_neg h1]
  rfl
/-- a tree of n places and w arms stands at p -/
structure TreeAt (C : Addr) (H : Hp) (p n w : Nat) : Prop where
  ob : ∃ dx t, H p = some (.ins C dx (tf n w t)) ∧ H t = some (.tup (pl n))
  hn : n ≤ 12
  hw : 1 ≤ w ∧ w ≤ 4
theorem TreeAt.same {C : Addr} {H H' : Hp} {p n w : Nat} (h : TreeAt C H p n w) (s : Same H H') : TreeAt C H' p n w :=
  ⟨let ⟨dx, t, a, b⟩ := h.ob; ⟨dx, t, s _ _ a, s _ _ b⟩, h.hn, h.hw⟩

def spInit (C : Addr) : Sp := fun vs H Q _ => ∃ (p dx n w : Nat), vs = [.ref p, .int n, .int w] ∧ n ≤ 12 ∧ (1 ≤ w ∧ w ≤ 4) ∧ H p = some (.ins C dx []) ∧
  ∀ (H' : Hp), (∀ b o, H b = some o → b ≠ p → H' b = some o) → TreeAt C H' p n w → Q .non H'
theorem ok_init (T : Tx K mg A) : FnOk P w K mg base CX0 4 A.f_t___init__ A.d_t___init__ ["self", "many", "arms"] (spInit A.C) := by
  refine T.F_t___init__.ok sc_t___init__ (fun vs H Q E h => ?_) (fun cdv B outer s H vs Q E hr h => ?_)
  · obtain ⟨p, dx, n, w, rfl, _⟩ := h
    rfl
  · obtain ⟨p, dx, n, w, rfl, hn, hw, hp, q⟩ := h
    refine ⟨_, PSs.nox (pss_cons (ps_expr (pe_call (ok_ca T) hr (by rfl) T.m_check_arms T.F_check_arms.kp (b_ca T) .nil pass0 (pa_cons (pv 2) pa_nil)))
      (pss_cons (ps_expr (pe_call (ok_cm T) hr (by rfl) T.m_check_many T.F_check_many.kp (b_cm T) .nil pass0 (pa_cons (pv 1) pa_nil)))
      (pss_cons (ps_fld (pv 0) (pv 1) rfl) (pss_cons (ps_fld (pv 0) (pv 2) rfl)
      (pss_one (ps_fld (pv 0) (pe_tupRg rfl (by rfl) T.g_tuple (prg_1 (by rfl) T.g_range (pv 1))) rfl)))))), ?_⟩
    refine ⟨_, rfl, _, rfl, ⟨by omega, by omega⟩, _, rfl, _, rfl, ⟨by omega, by omega⟩, ?_⟩
    refine ⟨_, rfl, _, rfl, p, A.C, dx, _, rfl, hp, T.cT, T.nMany, (by show 0 < 1000; decide), ?_⟩
    refine ⟨_, rfl, _, rfl, p, A.C, dx, _, rfl, upd_same, T.cT, T.nArms, (by show 1 < 1000; decide), ?_⟩
    refine ⟨_, rfl, _, rfl, RgOk.of_le (by omega) (by omega) (by omega) (by omega), fun t ht => ?_⟩
    have npt : p ≠ t := fun z => by
      rw [z, upd_same] at ht
      cases ht
    refine ⟨_, rfl, p, A.C, dx, _, rfl, Eq.trans (upd_ne npt) upd_same, T.cT, T.nPl, (by simp only [putF, n1, if_false]; show 2 < 1000; decide), ?_⟩
    refine q _ (fun b o e hb => ?_) ⟨⟨dx, t, upd_same, ?_⟩, hn, hw⟩
    · have nbt : b ≠ t := ne_of_none (by rw [upd_ne hb, upd_ne hb]; exact e) ht
      rw [upd_ne hb, upd_ne nbt, upd_ne hb, upd_ne hb]
      exact e
    · rw [upd_ne npt.symm, upd_same, rg_pl]

theorem kb_init (T : Tx K mg A) : ∃ mv : List Value, KBn K A.d_t___init__ ["self", "many", "arms"] 2 ["arms"] (fun us ws => us ++ (mv ++ ws)) (fun vs zs => vs ++ zs) := by
  obtain ⟨mv, h⟩ := T.F_t___init__.kbinds0 (ps := ["self", "many", "arms"]) 2 ["arms"] [] (fun us mv ws => us ++ (mv ++ ws)) (by simp) (by simp) (fun r1 r2 r3 => r1.append (r2.append r3))
    (fun D doc pm an cdv ct us mv ws h1 h2 h3 => by
      match us, mv, ws, h1, h2, h3 with
      | [a, b], [], [c], _, _, _ => rfl)
  exact ⟨mv, h⟩
theorem bd_init (T : Tx K mg A) : ∃ ds, Vals [V.int 2] ds ∧ L2.Binds K A.d_t___init__ ["self", "many", "arms"] ds := by
  refine T.F_t___init__.binds0 2 (by simp) rfl (fun D doc pm an cdv ct us ks h1 h2 => ?_)
  match us, ks, h1, h2 with
  | [a, b], [c], _, _ => exact ⟨_, _, _, _, _, _, rfl, rfl, rfl⟩
def spOf (K : PySem.W.Frag) (C : Addr) : Sp := fun vs H Q _ => ∃ (a w : Nat) (ns : List Int), vs = [.ref C, .ref a, .int w] ∧ (1 ≤ w ∧ w ≤ 4) ∧ Sq H a (ns.map V.int) ∧ ns.length ≤ 12 ∧ (∀ n ∈ ns, -1000000000 ≤ n ∧ n ≤ 1000000000) ∧
  ∀ (H' : Hp) p, Same H H' → H p = none → TreeAt C H' p ns.length w → Q (.ref p) H'
theorem ok_of (T : Tx K mg A) : FnOk P w K mg base CX0 6 A.f_t_of A.d_t_of ["cls", "row", "arms"] (spOf K A.C) := by
  obtain ⟨mv, kb⟩ := kb_init T
  refine T.F_t_of.ok sc_t_of (fun vs H Q E h => ?_) (fun cdv B outer s H vs Q E hr h => ?_)
  · obtain ⟨a, w, ns, rfl, _⟩ := h
    rfl
  · obtain ⟨a, w, ns, rfl, hw, ha, hl, hk, q⟩ := h
    refine ⟨_, PSs.nox (pss_cons (ps_expr (pe_call (ok_ca T) (hr.mono (by decide)) (by rfl) T.m_check_arms T.F_check_arms.kp (b_ca T) .nil pass0 (pa_cons (pv 2) pa_nil)))
      (pss_one (ps_ret (pe_makeLK (i := 0) T.mkC (ok_init T) hr kb pass0 (pa_cons (pe_callB call_len_seq (by rfl) T.g_len PySem.boot_len (pa_cons (pe_call (ok_row T) (hr.mono (by decide)) (by rfl) T.m_row_of T.F_row_of.kp (b_row T) .nil pass0 (pa_cons (pv 1) pa_nil)) pa_nil)) pa_nil)
        (pk_cons (pv 2) pk_nil) rfl (Or.inl rfl))))), ?_⟩
    refine ⟨_, rfl, _, rfl, ⟨by omega, by omega⟩, rfl, _, rfl, a, ns, rfl, ha, hl, hk, fun H1 p s1 hp => ?_⟩
    refine ⟨p, _, rfl, .inr (SqT.of hp), _, rfl, rfl, rfl, fun x dx nx ndx nex => ?_⟩
    refine ⟨x, dx, ns.length, w, by rw [List.length_map]; rfl, hl, hw, upd_same, fun H2 k2 t2 => ⟨rfl, q H2 x (fun b o e => k2 b o ?_ (ne_of_none (s1 _ _ e) nx)) (s1.free nx) t2⟩⟩
    rw [upd_ne (ne_of_none (s1 _ _ e) nx), upd_ne (ne_of_none (s1 _ _ e) ndx)]
    exact s1 _ _ e


theorem b_len (T : Tx K mg A) : L2.Binds K A.d_t___len__ ["self"] [] := T.F_t___len__.binds fun _ _ _ _ _ _ us hl => match us, hl with | [_], _ => rfl
theorem b_iter (T : Tx K mg A) : L2.Binds K A.d_t___iter__ ["self"] [] := T.F_t___iter__.binds fun _ _ _ _ _ _ us hl => match us, hl with | [_], _ => rfl
theorem b_gi (T : Tx K mg A) : L2.Binds K A.d_t___getitem__ ["self", "place"] [] := T.F_t___getitem__.binds fun _ _ _ _ _ _ us hl => match us, hl with | [_, _], _ => rfl
theorem b_par (T : Tx K mg A) : L2.Binds K A.d_t_parent ["self", "place"] [] := T.F_t_parent.binds fun _ _ _ _ _ _ us hl => match us, hl with | [_, _], _ => rfl
theorem b_way (T : Tx K mg A) : L2.Binds K A.d_t_way_to ["self", "place"] [] := T.F_t_way_to.binds fun _ _ _ _ _ _ us hl => match us, hl with | [_, _], _ => rfl
theorem b_sub (T : Tx K mg A) : L2.Binds K A.d_t_subtree ["self", "place"] [] := T.F_t_subtree.binds fun _ _ _ _ _ _ us hl => match us, hl with | [_, _], _ => rfl

theorem pl_len (n : Nat) : (pl n).length = n := by unfold pl; rw [List.length_map, List.length_range]
def spLen (C : Addr) : Sp := fun vs H Q _ => ∃ (p n w : Nat), vs = [.ref p] ∧ TreeAt C H p n w ∧ Q (.int n) H
theorem ok_len (T : Tx K mg A) : FnOk P w K mg base CX0 2 A.f_t___len__ A.d_t___len__ ["self"] (spLen A.C) := by
  refine T.F_t___len__.ok sc_t___len__ (fun vs H Q E h => ?_) (fun cdv B outer s H vs Q E hr h => ?_)
  · obtain ⟨p, n, w, rfl, _⟩ := h
    rfl
  · obtain ⟨p, n, w, rfl, t, q⟩ := h
    obtain ⟨dx, l, h1, h2⟩ := t.ob
    refine ⟨_, pss_one (ps_ret (pe_callB call_len_seq (by rfl) T.g_len PySem.boot_len (pa_cons (pe_fld (pv 0) rfl) pa_nil))), ?_⟩
    refine ⟨_, rfl, p, A.C, dx, _, _, rfl, h1, T.cT, T.nPl, tf_pl _ _ _, l, _, rfl, .inr (SqT.of h2), ?_⟩
    rw [pl_len]
    exact q
theorem ok_iter (T : Tx K mg A) : FnIt P w K mg base 2 A.f_t___iter__ A.d_t___iter__ ["self"] (spIter K A.C "_places") := by
  refine fnIt_of T.F_t___iter__ sc_t___iter__ (fun cdv B outer s H vs Q hr h => ?_)
  obtain ⟨a, dx, fs, t, zs, rfl, ha, hf, ht, q⟩ := h
  refine ⟨_, pss_one (ps_ret (pe_callB call_iterT (by rfl) T.g_iter (by decide +kernel) (pa_cons (pe_fld (pv 0) rfl) pa_nil))), ?_⟩
  exact ⟨_, rfl, a, A.C, dx, _, _, rfl, ha, T.cT, T.nPl, hf, t, zs, rfl, ht, q⟩
/-- the children of a place, as the program cuts them -/
def kids (n w i : Nat) : List V := cutV (pl n) (some ((i : Int) * (w : Int) + 1)) (some ((i : Int) * (w : Int) + 1 + (w : Int)))
def spGi (C : Addr) : Sp := fun vs H Q _ => ∃ (p n w i : Nat), vs = [.ref p, .int i] ∧ TreeAt C H p n w ∧ i < n ∧ ∀ H' q, Same H H' → H' q = some (.tup (kids n w i)) → Q (.ref q) H'
theorem ok_gi (T : Tx K mg A) : FnOk P w K mg base CX0 4 A.f_t___getitem__ A.d_t___getitem__ ["self", "place"] (spGi A.C) := by
  refine T.F_t___getitem__.ok sc_t___getitem__ (fun vs H Q E h => ?_) (fun cdv B outer s H vs Q E hr h => ?_)
  · obtain ⟨p, n, w, i, rfl, _⟩ := h
    rfl
  · obtain ⟨p, n, w, i, rfl, t, hi, q⟩ := h
    obtain ⟨dx, l, h1, h2⟩ := t.ob
    refine ⟨_, pss_cons (ps_expr (pe_call (ok_cp T) hr (by rfl) T.m_check_place T.F_check_place.kp (b_cp T) .nil pass0 (pa_cons (pv 1) (pa_cons (pe_fld (pv 0) rfl) pa_nil))))
      (pss_cons (ps_set (i := 2) sc_t___getitem__.nd rfl (Or.inl rfl) (pe_op op_add (pe_op op_mul (pv 1) (pe_fld (pv 0) rfl)) pe_int))
      (pss_one (ps_ret (pe_slice sl_tup (pe_fld (pv 0) rfl) (po_some (pv 2)) (po_some (pe_op op_add (pv 2) (pe_fld (pv 0) rfl))))))), ?_⟩
    refine ⟨_, rfl, _, rfl, p, A.C, dx, _, _, rfl, h1, T.cT, T.nMany, tf_many _ _ _, _, _, rfl, ⟨by omega, by omega⟩, ?_⟩
    refine ⟨_, rfl, _, rfl, p, A.C, dx, _, _, rfl, h1, T.cT, T.nArms, tf_arms _ _ _, _, _, rfl, rfl, .inl ⟨by have := t.hn; omega, by have := t.hn; omega⟩, _, _, rfl, rfl, ?_⟩
    refine ⟨_, rfl, p, A.C, dx, _, _, rfl, h1, T.cT, T.nPl, tf_pl _ _ _, ?_⟩
    refine ⟨_, rfl, _, rfl, _, rfl, _, rfl, p, A.C, dx, _, _, rfl, h1, T.cT, T.nArms, tf_arms _ _ _, _, _, rfl, rfl, _, rfl, ?_⟩
    refine ⟨l, pl n, rfl, SqT.of h2, fun z => ?_, fun r hr0 => q _ r (Same.up hr0) upd_same⟩
    have z1 := z.1
    rw [pl_len, show ((i : Int) * (w : Int) + 1) = ((i * w + 1 : Nat) : Int) by push_cast; rfl, HT.sIx_nat] at z1
    omega

end
end Tw

set_option Elab.async false
set_option linter.all false
set_option maxRecDepth 100000
set_option maxHeartbeats 2000000
namespace Tw
open PySem PySem.Spec PyProof.Rows L2
section
variable {P : Program} {w : World} {K : PySem.W.Frag} {mg : Str → Option Value} {base : Heap} {A : Ad}

/-! ways -/
def upF : Nat → Nat → Nat → List Nat
  | 0, _, p => [p]
  | k + 1, w, p => if p = 0 then [0] else p :: upF k w ((p - 1) / w)
def upL (w p : Nat) : List Nat := upF 13 w p
def wayL (w p : Nat) : List Nat := (upL w p).reverse
def vi (l : List Nat) : List V := l.map fun i => V.int (i : Nat)
theorem up_eq : ∀ w, w < 5 → ∀ p, p < 13 → 1 ≤ w → upL w p = if p = 0 then [0] else p :: upL w ((p - 1) / w) := by decide +kernel
theorem up_len : ∀ w, w < 5 → ∀ p, p < 13 → 1 ≤ w → (upL w p).length ≤ 13 := by decide +kernel
theorem vi_len (l : List Nat) : (vi l).length = l.length := by unfold vi; rw [List.length_map]
theorem vi_app (a b : List Nat) : vi (a ++ b) = vi a ++ vi b := by unfold vi; rw [List.map_append]
theorem vi_rev (a : List Nat) : (vi a).reverse = vi a.reverse := by unfold vi; rw [List.map_reverse]
/-- the parent as the program says it -/
def parV (w p : Nat) : V := if p = 0 then .non else .int ((p - 1) / w : Nat)
def spPar (C : Addr) : Sp := fun vs H Q _ => ∃ (p n w i : Nat), vs = [.ref p, .int i] ∧ TreeAt C H p n w ∧ i < n ∧ Q (parV w i) H
theorem ok_par (T : Tx K mg A) : FnOk P w K mg base CX0 4 A.f_t_parent A.d_t_parent ["self", "place"] (spPar A.C) := by
  refine T.F_t_parent.ok sc_t_parent (fun vs H Q E h => ?_) (fun cdv B outer s H vs Q E hr h => ?_)
  · obtain ⟨p, n, w, i, rfl, _⟩ := h
    rfl
  · obtain ⟨p, n, w, i, rfl, t, hi, q⟩ := h
    obtain ⟨dx, l, h1, h2⟩ := t.ob
    refine ⟨_, pss_cons (ps_expr (pe_call (ok_cp T) hr (by rfl) T.m_check_place T.F_check_place.kp (b_cp T) .nil pass0 (pa_cons (pv 1) (pa_cons (pe_fld (pv 0) rfl) pa_nil))))
      (pss_cons (ps_if (pt_cmpR op_eq (pv 1) pe_int (nomark _)) (pss_one (ps_ret pe_non)) pss_nil)
      (pss_one (ps_ret (pe_op op_fdivN (pe_op op_sub (pv 1) pe_int) (pe_fld (pv 0) rfl))))), ?_⟩
    refine ⟨_, rfl, _, rfl, p, A.C, dx, _, _, rfl, h1, T.cT, T.nMany, tf_many _ _ _, _, _, rfl, ⟨by omega, by omega⟩, ?_⟩
    refine ⟨_, rfl, rfl, _, rfl, ?_⟩
    by_cases h0 : i = 0
    · rw [decide_eq_true (show V.int (i : Nat) = V.int 0 by rw [h0]; rfl)]
      refine iteT ?_
      unfold parV at q
      rw [if_pos h0] at q
      exact q
    · rw [decide_eq_false (show ¬ V.int (i : Nat) = V.int 0 by intro z; injection z with z; omega)]
      refine iteF ?_
      refine ⟨_, rfl, _, _, rfl, rfl, _, rfl, p, A.C, dx, _, _, rfl, h1, T.cT, T.nArms, tf_arms _ _ _, _, _, rfl, rfl, ⟨by have := t.hw; omega, by have := t.hw; omega⟩, ?_⟩
      unfold parV at q
      rw [if_neg h0] at q
      have e : Int.fdiv ((i : Int) - 1) (w : Int) = ((i - 1) / w : Nat) := by
        rw [Int.fdiv_eq_ediv_of_nonneg _ (by omega), show ((i : Int) - 1) = ((i - 1 : Nat) : Int) by omega]
        rfl
      show Q (V.int (Int.fdiv ((i : Int) - 1) (w : Int))) H
      rw [e]
      exact q
/-- a number that falls while a place goes up -/
def muV : Option (Option V) → Nat
  | some (some (V.int z)) => z.toNat + 1
  | _ => 0
def spWay (C : Addr) : Sp := fun vs H Q _ => ∃ (p n w i : Nat), vs = [.ref p, .int i] ∧ TreeAt C H p n w ∧ i < n ∧ ∀ H' q, Same H H' → H q = none → H' q = some (.tup (vi (wayL w i))) → Q (.ref q) H'
theorem ok_way (T : Tx K mg A) : FnOk P w K mg base CX0 5 A.f_t_way_to A.d_t_way_to ["self", "place"] (spWay A.C) := by
  refine T.F_t_way_to.ok sc_t_way_to (fun vs H Q E h => ?_) (fun cdv B outer s H vs Q E hr h => ?_)
  · obtain ⟨p, n, w, i, rfl, _⟩ := h
    rfl
  · obtain ⟨p, n, w, i, rfl, t, hi, q⟩ := h
    refine ⟨_, pss_cons (ps_set (i := 2) sc_t_way_to.nd rfl (Or.inl rfl) (pe_lst (pa_cons (pv 1) pa_nil)))
      (pss_cons (ps_set (i := 3) sc_t_way_to.nd rfl (Or.inl rfl) (pe_meth (pv 0) T.cT T.M_t_parent (ok_par T) hr (b_par T) .nil pass0 (pa_cons (pv 1) pa_nil)))
      (pss_cons (ps_while PassesOwn.never (pt_cmpR op_notN (pv 3) pe_non (nomark _))
        (pss_cons (ps_expr (pe_bm PySem.F.plainAttrs_list PySem.F.slot_list_append PySem.F.type_list_append mt_append (pv 2) (pa_cons (pv 3) pa_nil)))
        (pss_one (ps_set (i := 3) sc_t_way_to.nd rfl (Or.inl rfl) (pe_meth (pv 0) T.cT T.M_t_parent (ok_par T) hr (b_par T) .nil pass0 (pa_cons (pv 3) pa_nil))))))
      (pss_one (ps_ret (pe_callTy call_tuple_of (by rfl) T.g_tuple (by decide +kernel) (pa_cons (pe_revL (pv 2)) pa_nil)))))), ?_⟩
    obtain ⟨dx, l, h1, h2⟩ := t.ob
    have noP : (tf n w l).lookup ("parent" : Str) = none := tf_no _ _ _ (by decide +kernel) (by decide +kernel) (by decide +kernel)
    refine ⟨_, rfl, by show 1 ≤ sizeLine; decide, fun d hd => ?_⟩
    have s1 : Same H (upd H d (.lst [V.int (i : Nat)])) := Same.up hd
    refine ⟨_, rfl, p, dx, _, rfl, s1 _ _ h1, noP, _, rfl, p, n, w, i, rfl, t.same s1, hi, ?_⟩
    refine while_by (fun σ H' => ∃ (c : Nat) (acc : List Nat), σ = [some (.ref p), some (.int i), some (.ref d), some (parV w c)] ∧ c < n ∧ Acc H d (vi (acc ++ [c])) H' ∧ acc ++ upL w c = upL w i ∧ acc.length ≤ 12)
      (fun σ _ => muV σ[3]?) ⟨i, [], rfl, hi, ⟨s1, hd, upd_same⟩, rfl, Nat.zero_le _⟩ ?_ ?_
    · rintro σ H' ⟨c, acc, rfl, hc, ac, ea, hl⟩
      have hn := t.hn
      have hw := t.hw
      have eu := up_eq w (by omega) c (by omega) hw.1
      refine ⟨_, rfl, rfl, _, rfl, ?_⟩
      by_cases h0 : c = 0
      · have ev : parV w c = V.non := by unfold parV; rw [if_pos h0]
        rw [ev, decide_eq_true (rfl : V.non = V.non)]
        refine iteF ?_
        rw [if_pos h0] at eu
        refine ⟨_, rfl, d, _, rfl, SqL.of ac.a, fun r hr0 => ⟨r, _, rfl, .inl ⟨SqL.of upd_same, fun u hu => q _ u (ac.s.trans ((Same.up hr0).trans (Same.up hu))) (ac.s.free ((Same.up hr0).free hu)) ?_⟩⟩⟩
        unfold wayL
        rw [upd_same, vi_rev, ← ea, eu, h0]
      · have ev : parV w c = V.int ((c - 1) / w : Nat) := by unfold parV; rw [if_neg h0]
        rw [ev, decide_eq_false (show ¬ V.int ((c - 1) / w : Nat) = V.non from fun z => nomatch z)]
        refine iteT ?_
        rw [if_neg h0] at eu
        have hlt : (c - 1) / w < c := Nat.lt_of_le_of_lt (Nat.div_le_self _ _) (by omega)
        have hL : acc.length + 1 + (upL w ((c - 1) / w)).length = (upL w i).length := by
          rw [← ea, eu, List.length_append, List.length_cons]
          omega
        have hL2 := up_len w (by omega) i (by omega) hw.1
        have hL3 := up_eq w (by omega) ((c - 1) / w) (by omega) hw.1
        have hL4 : 1 ≤ (upL w ((c - 1) / w)).length := by
          rw [hL3]
          split
          · exact Nat.le_refl _
          · rw [List.length_cons]; omega
        refine ⟨_, rfl, .inl ⟨rfl, _, SqL.of ac.a⟩, _, rfl, d, _, _, rfl, rfl, ac.a, small1000 (by rw [vi_len, List.length_append, List.length_singleton]; omega), ?_⟩
        have e2 : vi (acc ++ [c]) ++ [V.int ((c - 1) / w : Nat)] = vi (acc ++ [c] ++ [(c - 1) / w]) := by rw [vi_app (acc ++ [c])]; rfl
        rw [e2]
        have ac2 : Acc H d (vi (acc ++ [c] ++ [(c - 1) / w])) (upd H' d (.lst (vi (acc ++ [c] ++ [(c - 1) / w])))) := ac.push
        refine ⟨_, rfl, p, dx, _, rfl, ac2.s _ _ h1, noP, _, rfl, p, n, w, (c - 1) / w, rfl, t.same ac2.s, by omega, ?_⟩
        refine ⟨⟨(c - 1) / w, acc ++ [c], rfl, by omega, ac2, ?_, by rw [List.length_append, List.length_singleton]; omega⟩, ?_⟩
        · rw [← ea, eu, List.append_assoc]
          rfl
        · show muV (some (some (parV w ((c - 1) / w)))) < muV (some (some (V.int ((c - 1) / w : Nat))))
          unfold parV
          split
          · show 0 < _
            exact Nat.succ_pos _
          · rename_i h9
            show (((((c - 1) / w - 1) / w : Nat) : Int)).toNat + 1 < ((((c - 1) / w : Nat) : Int)).toNat + 1
            rw [Int.toNat_natCast, Int.toNat_natCast]
            exact Nat.succ_lt_succ (Nat.lt_of_le_of_lt (Nat.div_le_self _ _) (Nat.sub_lt (Nat.pos_of_ne_zero h9) Nat.one_pos))
    · rintro σ' H1 Q1 Q2 mono ⟨v, hv, e1, b1, e2, z⟩
      exact ⟨v, hv, e1, b1, e2, mono _ _ z⟩


/-- the places of a subtree -/
def subL (n w i : Nat) : List Nat := (List.range n).filter fun j => decide (i ∈ wayL w j)
theorem mem_vi (i : Nat) (l : List Nat) : inV (V.int (i : Nat)) (vi l) = decide (i ∈ l) := by
  have key : ∀ j : Nat, eqV (V.int (j : Nat)) (V.int (i : Nat)) = decide (j = i) := fun j => by
    show ((j : Int) == (i : Int)) = decide (j = i)
    by_cases h : j = i
    · rw [h, decide_eq_true rfl, beq_self_eq_true]
    · rw [decide_eq_false h]
      exact beq_eq_false_iff_ne.mpr (by omega)
  unfold inV vi
  induction l with
  | nil => rfl
  | cons a l ih =>
    rw [List.map_cons, List.any_cons, ih, key]
    by_cases h : a = i
    · simp [h]
    · simp [h, Ne.symm h]
theorem vi_flat (l : List Nat) : (vi l).all flatV = true := by
  unfold vi
  rw [List.all_map]
  exact List.all_eq_true.mpr fun _ _ => rfl
theorem sub_pick (n w i : Nat) : vi (subL n w i) = (List.range n).filterMap fun j => if i ∈ wayL w j then some (V.int (j : Nat)) else none := by
  unfold vi subL
  induction List.range n with
  | nil => rfl
  | cons a l ih =>
    by_cases h : i ∈ wayL w a
    · rw [List.filter_cons_of_pos (by simp [h]), List.map_cons, ih, List.filterMap_cons, if_pos h]
    · rw [List.filter_cons_of_neg (by simp [h]), ih, List.filterMap_cons, if_neg h]
def spSub (C : Addr) : Sp := fun vs H Q _ => ∃ (p n w i : Nat), vs = [.ref p, .int i] ∧ TreeAt C H p n w ∧ i < n ∧ ∀ H' q, Same H H' → H q = none → H' q = some (.tup (vi (subL n w i))) → Q (.ref q) H'
theorem ok_sub (T : Tx K mg A) : FnOk P w K mg base CX0 6 A.f_t_subtree A.d_t_subtree ["self", "place"] (spSub A.C) := by
  refine T.F_t_subtree.ok sc_t_subtree (fun vs H Q E h => ?_) (fun cdv B outer s H vs Q E hr h => ?_)
  · obtain ⟨p, n, w, i, rfl, _⟩ := h
    rfl
  · obtain ⟨p, n, w, i, rfl, t, hi, q⟩ := h
    obtain ⟨dx, l, h1, h2⟩ := t.ob
    have noW : (tf n w l).lookup ("way_to" : Str) = none := tf_no _ _ _ (by decide +kernel) (by decide +kernel) (by decide +kernel)
    refine ⟨_, pss_cons (ps_expr (pe_call (ok_cp T) (hr.mono (by decide)) (by rfl) T.m_check_place T.F_check_place.kp (b_cp T) .nil pass0 (pa_cons (pv 1) (pa_cons (pe_fld (pv 0) rfl) pa_nil))))
      (pss_one (ps_ret (pe_callTy call_tuple_of (by rfl) T.g_tuple (by decide +kernel) (pa_cons
        (pe_lc (own := [("below", 2)]) (g := gName 2) rfl sc_t_subtree.nd (pi_tup (pe_fld (pv 0) rfl)) (blkOk_by (own := [("below", 2)]) (N := ["self", "place", "below"]) (sc := defScope s_t_subtree) (by decide +kernel)) (fun _ _ _ _ _ => pg_name (i := 2) sc_t_subtree.nd rfl (Or.inl rfl))
          (fun _ _ _ _ _ => pts_one (pt_cmpR (r := L2.rIn K false) op_in_seq (pv 1) (pe_meth (pv 0) T.cT T.M_t_way_to (ok_way T) hr (b_way T) .nil pass0 (pa_cons (pv 2) pa_nil)) (by rfl))) (fun _ _ _ _ _ => pv 2)) pa_nil)))), ?_⟩
    refine ⟨_, rfl, _, rfl, p, A.C, dx, _, _, rfl, h1, T.cT, T.nMany, tf_many _ _ _, _, _, rfl, ⟨by omega, by omega⟩, ?_⟩
    refine ⟨_, rfl, p, A.C, dx, _, _, rfl, h1, T.cT, T.nPl, tf_pl _ _ _, l, rfl, ⟨_, SqT.of h2⟩, fun D hD => ?_⟩
    refine lc_it (walk_tup (xs := pl n)) (PickI H D (List.range n) fun j => if i ∈ wayL w j then some (V.int (j : Nat)) else none) (pick_start hD) (fun k H' _ h => SqT.of (h.s _ _ h2)) ?_ ?_
    · rintro k x H2 H3 hk pk ⟨rfl, ex⟩
      obtain ⟨hk', rfl⟩ := map_at ex
      rw [List.getElem_range]
      rw [List.length_range] at hk'
      refine ⟨rfl, _, rfl, _, rfl, p, dx, _, rfl, pk.s _ _ h1, noW, _, rfl, p, n, w, k, rfl, t.same pk.s, hk', fun H4 r s4 r0 hr4 => ?_⟩
      refine ⟨r, _, rfl, .inr (SqT.of hr4), rfl, vi_flat _, _, rfl, ?_⟩
      show if (inV (V.int (i : Nat)) (vi (wayL w k))) = true then _ else _
      rw [mem_vi]
      by_cases hm : i ∈ wayL w k
      · rw [decide_eq_true hm]
        exact iteT ⟨_, rfl, pick_yes (by rw [List.length_range]; exact hk') (by rw [List.length_range]; have := t.hn; omega) (by rw [List.getElem_range, if_pos hm]) s4 pk⟩
      · rw [decide_eq_false hm]
        exact iteF (pick_no (by rw [List.length_range]; exact hk') (by rw [List.getElem_range, if_neg hm]) s4 pk)
    · intro H2 pk
      have ac := pick_end (by rw [pl_len, List.length_range]) pk
      refine ⟨D, _, rfl, .inl ⟨SqL.of ac.a, fun r hr0 => q _ r (ac.s.trans (Same.up hr0)) (ac.s.free hr0) ?_⟩⟩
      rw [upd_same, ← sub_pick]

theorem self_sub : ∀ w, w < 5 → ∀ i, i < 13 → 1 ≤ w → i ∈ wayL w i := by decide +kernel
end
end Tw

set_option Elab.async false
set_option linter.all false
set_option maxRecDepth 100000
set_option maxHeartbeats 2000000
namespace Tw
open PySem PySem.Spec PyProof.Rows L2
section
variable {P : Program} {w : World} {K : PySem.W.Frag} {mg : Str → Option Value} {base : Heap} {A : Ad}

/-! the law's own defs -/
theorem ints_dp (K : PySem.W.Frag) (H : Hp) : ∀ ns : List Int, DpAll K H (ns.map V.int) (ns.map PyData.int)
  | [] => .nil
  | n :: ns => .cons (.int n) (ints_dp K H ns)
theorem emp_eqv : ∀ ns : List Int, PyData.eqv (.list (ns.map PyData.int)) (.list []) = decide (ns = [])
  | [] => by rfl
  | n :: ns => by rfl
theorem shaped_ints (ns : List Int) : SeqAt.shaped (.list (ns.map PyData.int)) = true := by
  have h1 : ∀ ms : List Int, PyData.canLayAll0 (ms.map PyData.int) = true := fun ms => by
    induction ms with
    | nil => rfl
    | cons m ms ih => rw [List.map_cons, PyData.canLayAll0, ih]; rfl
  have h2 : ∀ ms : List Int, PyData.depthAll (ms.map PyData.int) ≤ 1 := fun ms => by
    induction ms with
    | nil => simp [PyData.depthAll]
    | cons m ms ih =>
      simp only [List.map_cons, PyData.depthAll, PyData.depth]
      omega
  have h3 : PyData.depth (.list (ns.map PyData.int)) ≤ 64 := by
    have := h2 ns
    simp only [PyData.depth]
    omega
  unfold SeqAt.shaped
  rw [decide_eq_true h3, Bool.and_true]
  simp only [PyData.canLay0]
  exact h1 ns
theorem cut63 (xs : List V) (h : xs.length ≤ 63) : cutV xs none (some 63) = xs := by
  unfold cutV
  rw [HT.sIx_none, show (63 : Int) = ((63 : Nat) : Int) from rfl, HT.sIx_nat, List.drop_zero, Nat.min_eq_right h, Nat.sub_zero, List.take_length]
def spNum (K : PySem.W.Frag) : Sp := fun vs H Q _ => ∃ (a : Addr) (ns : List Int) (i : Nat), vs = [.ref a, .int i] ∧ SqL K H a (ns.map V.int) ∧ ns.length ≤ 63 ∧ i < 1000000 ∧ ∀ H' r, Same H H' → Q (.int r) H'
theorem ok_num (T : Tx K mg A) : FnOk P w K mg base CX0 2 A.f__law_number A.d__law_number ["script", "index"] (spNum K) := by
  refine T.F__law_number.ok sc__law_number (fun vs H Q E h => ?_) (fun cdv B outer s H vs Q E hr h => ?_)
  · obtain ⟨a, ns, i, rfl, _⟩ := h
    rfl
  · obtain ⟨a, ns, i, rfl, ha, hl, hi, q⟩ := h
    have nd := sc__law_number.nd
    have hu := hr.units
    refine ⟨_, C8.pss_cut (ps_set (i := 2) nd rfl (Or.inl rfl) (pe_ifExp (pt_cmpR (op_neD hu) (pv 0) (pe_lst pa_nil) (nomark _)) (pe_slice sl_list (pv 0) po_none (po_some pe_int)) (pe_lst (pa_cons pe_int pa_nil))))
      (pss_cons (ps_set (i := 3) nd rfl (Or.inl rfl) (pe_op op_add
        (pe_ix ix_list (pv 2) (pe_op op_mod (pe_callTy call_int1 (by rfl) T.g_int (by decide +kernel) (pa_cons (pv 1) pa_nil)) (pe_callB call_len_seq (by rfl) T.g_len PySem.boot_len (pa_cons (pv 2) pa_nil))) (fun _ _ => rfl))
        (pe_op op_mul pe_int (pe_op op_fdivN (pv 1) (pe_callB call_len_seq (by rfl) T.g_len PySem.boot_len (pa_cons (pv 2) pa_nil))))))
      (pss_cons (ps_par (i := 4) (j := 5) rfl nd rfl rfl (by decide) rfl rfl (pa_cons (pe_op op_mod (pe_callTy call_int1 (by rfl) T.g_int (by decide +kernel) (pa_cons (pv 3) pa_nil)) pe_int)
          (pa_cons (pe_op op_mod (pe_callTy call_int1 (by rfl) T.g_int (by decide +kernel) (pa_cons (pe_op op_fdivN (pv 3) pe_int) pa_nil)) pe_int) pa_nil)) rfl)
      (pss_cons (ps_set (i := 6) nd rfl (Or.inl rfl) (pe_op op_mod (pe_callTy call_int1 (by rfl) T.g_int (by decide +kernel) (pa_cons (pe_callB (cr_sum rfl) (by rfl) T.g_sum (by decide +kernel) (pa_cons (pv 2) pa_nil)) pa_nil)) pe_int))
      (pss_cons (ps_set (i := 7) nd rfl (Or.inl rfl) (pe_op op_mod (pe_callTy call_int1 (by rfl) T.g_int (by decide +kernel) (pa_cons
          (pe_op op_add (pe_op op_add (pe_op op_mul (pe_op op_add (pv 4) (pe_op op_mul pe_int (pv 1))) pe_int) (pe_op op_mul pe_int (pv 5))) (pv 6)) pa_nil)) pe_int))
      (pss_one (ps_ret (pe_op op_add (pe_op op_mul (pe_op op_mod (pe_callTy call_int1 (by rfl) T.g_int (by decide +kernel) (pa_cons
          (pe_op op_mul (pv 7) (pe_op op_add (pe_op op_add (pv 7) (pe_op op_mul pe_int (pv 1))) pe_int)) pa_nil)) pe_int) pe_int) (pv 5)))))))), ?_⟩
    refine ⟨fun σ H1 => ∃ (c : Addr) (cs : List Int), σ = [some (.ref a), some (.int i), some (.ref c), none, none, none, none, none] ∧ Same H H1 ∧ H1 c = some (.lst (cs.map V.int)) ∧ 0 < cs.length ∧ cs.length ≤ 63, ?_, ?_⟩
    · refine ⟨_, rfl, Nat.zero_le _, fun l0 hl0 => ?_⟩
      have hs0 : Same H (upd H l0 (.lst [])) := Same.up hl0
      refine ⟨.list (ns.map PyData.int), .list [], .lst (hs0.seq ha) (ints_dp _ _ _), .lst (SqL.of upd_same) .nil, ?_, rfl, _, rfl, ?_⟩
      · exact shaped_ints _
      · rw [emp_eqv]
        by_cases e : ns = []
        · rw [decide_eq_true e]
          refine iteF ⟨by show 1 ≤ sizeLine; decide, fun l1 hl1 => ⟨l1, [5], rfl, hs0.trans (Same.up hl1), upd_same, by decide, by decide⟩⟩
        · rw [decide_eq_false e]
          refine iteT ⟨_, rfl, _, rfl, a, _, rfl, hs0.seq ha, fun l1 hl1 => ⟨l1, ns, rfl, hs0.trans (Same.up hl1), ?_, ?_, hl⟩⟩
          · rw [upd_same]
            exact congrArg (fun z => some (HO.lst z)) (cut63 _ (by rw [List.length_map]; exact hl))
          · exact List.length_pos_iff.mpr e
    · rintro σ H1 ⟨c, cs, rfl, s1, hc, h0, h63⟩
      have hq := SqL.of (K := K) hc
      have hL : ((cs.map V.int).length : Int) = (cs.length : Int) := by rw [List.length_map]
      have hm0 : 0 ≤ (i : Int) % (cs.length : Int) := Int.emod_nonneg _ (by omega)
      have hm1 : (i : Int) % (cs.length : Int) < (cs.length : Int) := Int.emod_lt_of_pos _ (by omega)
      obtain ⟨j, hj⟩ : ∃ j : Nat, (i : Int) % (cs.length : Int) = (j : Int) := ⟨_, (Int.toNat_of_nonneg hm0).symm⟩
      have hjl : j < cs.length := by omega
      have hat : atI (cs.map V.int) ((i : Int) % ((cs.map V.int).length : Int)) = some (V.int cs[j]) := by
        rw [hL, hj]
        exact atI_nat (by rw [List.getElem?_map, List.getElem?_eq_getElem hjl]; rfl)
      refine ⟨_, rfl, _, rfl, .inl ⟨_, rfl, _, rfl, c, _, rfl, .inl hq, _, _, rfl, rfl, ?_, c, _, _, _, rfl, rfl, hq, hat, _, rfl, _, rfl, c, _, rfl, .inl hq, _, _, rfl, rfl, ⟨?_, ?_⟩, _, _, rfl, rfl, .inl ⟨by decide, by decide⟩, _, _, rfl, rfl, ?_⟩⟩
      · show (0 : Int) < ((cs.map V.int).length : Int)
        omega
      · omega
      · omega
      · refine ⟨_, rfl, .inl ⟨_, rfl, _, _, rfl, rfl, by show (0 : Int) < 1000003; decide, ?_⟩⟩
        refine ⟨_, rfl, _, _, rfl, rfl, ⟨by decide, by decide⟩, .inl ⟨_, rfl, _, _, rfl, rfl, by show (0 : Int) < 999983; decide, _, _, rfl, ?_⟩⟩
        refine ⟨_, rfl, c, cs, rfl, hq, .inl ⟨_, rfl, _, _, rfl, rfl, by show (0 : Int) < 65521; decide, ?_⟩⟩
        refine ⟨_, rfl, _, rfl, _, _, rfl, rfl, .inl ⟨by decide, by decide⟩, _, _, rfl, rfl, _, _, rfl, rfl, .inr ⟨by decide, by decide⟩, ?_⟩
        refine ⟨_, rfl, _, _, rfl, rfl, .inl ⟨by decide, by decide⟩, _, _, rfl, rfl, _, rfl, _, _, rfl, rfl, .inl ⟨_, rfl, _, _, rfl, rfl, by show (0 : Int) < 2147483647; decide, ?_⟩⟩
        refine ⟨_, rfl, _, rfl, _, rfl, _, _, rfl, rfl, .inl ⟨by decide, by decide⟩, _, _, rfl, rfl, _, _, rfl, rfl, _, _, rfl, rfl, .inl ⟨?_, ?_⟩, .inl ⟨_, rfl, _, _, rfl, rfl, by show (0 : Int) < 2147483629; decide, ?_⟩⟩
        · have := Int.emod_nonneg ((((cs[j] + 13 * Int.fdiv (i : Int) ((cs.map V.int).length : Int)) % 1000003 + 977 * (i : Int)) * 48271 + 31 * (Int.fdiv (cs[j] + 13 * Int.fdiv (i : Int) ((cs.map V.int).length : Int)) 1000003 % 999983)) + cs.sum % 65521) (show (2147483647 : Int) ≠ 0 by decide)
          omega
        · have := Int.emod_lt_of_pos ((((cs[j] + 13 * Int.fdiv (i : Int) ((cs.map V.int).length : Int)) % 1000003 + 977 * (i : Int)) * 48271 + 31 * (Int.fdiv (cs[j] + 13 * Int.fdiv (i : Int) ((cs.map V.int).length : Int)) 1000003 % 999983)) + cs.sum % 65521) (show (0 : Int) < 2147483647 by decide)
          omega
        · exact ⟨_, _, rfl, rfl, .inr ⟨by decide, by decide⟩, _, rfl, _, _, rfl, rfl, q _ _ s1⟩
theorem b_num (T : Tx K mg A) : L2.Binds K A.d__law_number ["script", "index"] [] := T.F__law_number.binds fun _ _ _ _ _ _ us hl => match us, hl with | [_, _], _ => rfl

/-- what stood, but for what stands at d -/
def But (d : Addr) (H H' : Hp) : Prop := ∀ b o, b ≠ d → H b = some o → H' b = some o
theorem But.of {d : Addr} {H H' : Hp} (s : Same H H') : But d H H' := fun b o _ e => s b o e
theorem But.trans {d : Addr} {H H1 H2 : Hp} (a : But d H H1) (b : But d H1 H2) : But d H H2 := fun c o n e => b c o n (a c o n e)
theorem But.put {d : Addr} {o : HO} {H : Hp} : But d H (upd H d o) := fun b u n e => by rw [upd_ne n]; exact e
theorem But.seq {d a : Addr} {H H' : Hp} {xs : List V} (s : But d H H') (h : SqL K H a xs) (n : a ≠ d ∨ ∀ H', SqL K H' a xs) : SqL K H' a xs := by
  rcases n with n | n
  rotate_left
  · exact n _
  rcases h with (h | ⟨o, h⟩) | h
  · exact .inl (.inl (s _ _ n h))
  · exact .inl (.inr ⟨o, s _ _ n h⟩)
  · exact .inr h
/-- the draws: a list of the script and of a number -/
structure DrAt (K : PySem.W.Frag) (H : Hp) (d a : Addr) (ns : List Int) (k : Nat) : Prop where
  l : H d = some (.lst [.ref a, .int k])
  n : a ≠ d ∨ ∀ H', SqL K H' a (ns.map V.int)
  s : SqL K H a (ns.map V.int)
  h : ns.length ≤ 63
theorem DrAt.start {K : PySem.W.Frag} {H : Hp} {d a : Addr} {ns : List Int} (ha : SqL K H a (ns.map V.int)) (hl : ns.length ≤ 63) (hd : H d = none) : DrAt K (upd H d (.lst [.ref a, .int 0])) d a ns 0 := by
  refine ⟨upd_same, ?_, (Same.up hd).seq ha, hl⟩
  rcases ha with (h | ⟨o, h⟩) | h
  · exact .inl (ne_of_none h hd)
  · exact .inl (ne_of_none h hd)
  · exact .inr fun H' => .inr h
theorem DrAt.same {K : PySem.W.Frag} {H H' : Hp} {d a : Addr} {ns : List Int} {k : Nat} (h : DrAt K H d a ns k) (s : Same H H') : DrAt K H' d a ns k := ⟨s _ _ h.l, h.n, s.seq h.s, h.h⟩
def spTake (K : PySem.W.Frag) : Sp := fun vs H Q _ => ∃ (d a : Addr) (ns : List Int) (k m : Nat), vs = [.ref d, .int m] ∧ DrAt K H d a ns k ∧ k < 100000 ∧ 0 < m ∧
  ∀ (H' : Hp) (r : Nat), But d H H' → DrAt K H' d a ns (k + 1) → r < m → Q (.int r) H'
theorem ok_take (T : Tx K mg A) : FnOk P w K mg base CX0 3 A.f__law_take A.d__law_take ["draw", "many"] (spTake K) := by
  refine T.F__law_take.ok sc__law_take (fun vs H Q E h => ?_) (fun cdv B outer s H vs Q E hr h => ?_)
  · obtain ⟨d, a, ns, k, m, rfl, _⟩ := h
    rfl
  · obtain ⟨d, a, ns, k, m, rfl, ⟨hl, hn, hs, h63⟩, hk, hm, q⟩ := h
    refine ⟨_, pss_cons (ps_asg (pe_op op_add (pe_ix ix_list (pv 0) pe_int (fun _ _ => rfl)) pe_int) (pg_sub (pv 0) pe_int set_list))
      (pss_one (ps_ret (pe_op op_mod (pe_callTy call_int1 (by rfl) T.g_int (by decide +kernel) (pa_cons
        (pe_call (ok_num T) hr (by rfl) T.m__law_number T.F__law_number.kp (b_num T) .nil pass0 (pa_cons (pe_ix ix_list (pv 0) pe_int (fun _ _ => rfl))
          (pa_cons (pe_callTy call_int1 (by rfl) T.g_int (by decide +kernel) (pa_cons (pe_ix ix_list (pv 0) pe_int (fun _ _ => rfl)) pa_nil)) pa_nil))) pa_nil)) (pv 1)))), ?_⟩
    have at1 : atI [V.ref a, V.int (k : Nat)] 1 = some (V.int (k : Nat)) := rfl
    refine ⟨_, rfl, d, _, _, _, rfl, rfl, SqL.of hl, at1, _, _, rfl, rfl, _, rfl, d, _, _, 1, rfl, rfl, hl, rfl, ?_⟩
    have e1 : upd H d (.lst (([V.ref a, V.int (k : Nat)]).set 1 (V.int ((k : Int) + 1)))) d = some (.lst [V.ref a, V.int ((k + 1 : Nat) : Int)]) := by
      rw [upd_same]
      rfl
    have b1 : But d H (upd H d (.lst (([V.ref a, V.int (k : Nat)]).set 1 (V.int ((k : Int) + 1))))) := But.put
    have s1 := b1.seq hs hn
    refine ⟨_, rfl, d, _, _, _, rfl, rfl, SqL.of e1, rfl, _, rfl, d, _, _, _, rfl, rfl, SqL.of e1, rfl, .inl ⟨_, rfl, a, ns, k + 1, rfl, s1, h63, by omega, fun H2 r s2 => ?_⟩⟩
    refine .inl ⟨_, rfl, _, rfl, _, _, rfl, rfl, by show (0 : Int) < (m : Nat); omega, ?_⟩
    have m0 := Int.emod_nonneg r (show ((m : Nat) : Int) ≠ 0 by omega)
    have m1 := Int.emod_lt_of_pos r (show (0 : Int) < (m : Nat) by omega)
    obtain ⟨z, hz⟩ : ∃ z : Nat, r % (m : Nat) = (z : Int) := ⟨_, (Int.toNat_of_nonneg m0).symm⟩
    have h := q H2 z (b1.trans (But.of s2)) ⟨s2 _ _ e1, hn, s2.seq s1, h63⟩ (by omega)
    rw [← hz] at h
    exact h
theorem b_take (T : Tx K mg A) : L2.Binds K A.d__law_take ["draw", "many"] [] := T.F__law_take.binds fun _ _ _ _ _ _ us hl => match us, hl with | [_, _], _ => rfl

def dl (l : List Nat) : List PyData := l.map fun i => PyData.int (i : Nat)
theorem dl_ints (l : List Nat) : dl l = (l.map fun i => ((i : Nat) : Int)).map PyData.int := by unfold dl; rw [List.map_map]; rfl
theorem vi_ints (l : List Nat) : vi l = (l.map fun i => ((i : Nat) : Int)).map V.int := by unfold vi; rw [List.map_map]; rfl
theorem vi_dp (K : PySem.W.Frag) (H : Hp) (l : List Nat) : DpAll K H (vi l) (dl l) := by
  rw [vi_ints, dl_ints]
  exact ints_dp _ _ _
theorem dl_shaped (l : List Nat) : SeqAt.shaped (.tuple (dl l)) = true := by
  rw [dl_ints]
  exact shaped_ints _
theorem dl_shapedL (l : List Nat) : SeqAt.shaped (.list (dl l)) = true := by
  rw [dl_ints]
  exact shaped_ints _
theorem refl_of {d : PyData} (h : SeqAt.shaped d = true) : PyData.eqv d d = true := PySem.SeqAt.eqv_refl d (SeqAt.canLay_of_shaped h)
theorem up_head : ∀ w, w < 5 → ∀ p, p < 13 → 1 ≤ w → upL w p = p :: (upL w p).tail := by decide +kernel
theorem way_len : ∀ w, w < 5 → ∀ p, p < 13 → 1 ≤ w → (wayL w p).length ≤ 13 := by decide +kernel
/-- the children as the law looks for them -/
def kidL (n w i : Nat) : List Nat := ((List.range (n - 1)).filter fun j => decide (j / w = i)).map (· + 1)
theorem kid_pick (n w i : Nat) : vi (kidL n w i) = (List.range (n - 1)).filterMap fun j => if j / w = i then some (V.int ((j + 1 : Nat) : Int)) else none := by
  unfold vi kidL
  induction List.range (n - 1) with
  | nil => rfl
  | cons a l ih =>
    by_cases h : a / w = i
    · rw [List.filter_cons_of_pos (by simp [h]), List.map_cons, List.map_cons, ih, List.filterMap_cons, if_pos h]
    · rw [List.filter_cons_of_neg (by simp [h]), ih, List.filterMap_cons, if_neg h]
def kidsN (n w i : Nat) : List Nat := ((List.range n).drop (min (i * w + 1) n)).take (min (i * w + 1 + w) n - min (i * w + 1) n)
theorem kids_same : ∀ n, n < 13 → ∀ w, w < 5 → ∀ i, i < n → 1 ≤ w → kidsN n w i = kidL n w i := by decide +kernel
theorem kids_eq (n w i : Nat) : kids n w i = vi (kidsN n w i) := by
  unfold kids cutV kidsN
  rw [pl_len, show ((i : Int) * (w : Int) + 1) = ((i * w + 1 : Nat) : Int) by push_cast; rfl, show (((i * w + 1 : Nat) : Int) + (w : Int)) = ((i * w + 1 + w : Nat) : Int) by push_cast; rfl, HT.sIx_nat, HT.sIx_nat]
  unfold vi pl
  rw [List.map_take, List.map_drop]
def spKeys (K : PySem.W.Frag) : Sp := fun vs H Q _ => ∃ (d a : Addr) (ns : List Int) (k m s : Nat), vs = [.ref d, .int m, .int s] ∧ DrAt K H d a ns k ∧ k < 50000 ∧ m ≤ 12 ∧ 0 < s ∧
  ∀ (H' : Hp) (q : Addr) (ks : List Int) (k' : Nat), But d H H' → DrAt K H' d a ns k' → k' ≤ k + 14 → ks.length ≤ m → (∀ z ∈ ks, -((s : Int) / 2) ≤ z ∧ z < (s : Int) - (s : Int) / 2) → H q = none → H' q = some (.lst (ks.map V.int)) → Q (.ref q) H'
theorem ok_keys (T : Tx K mg A) : FnOk P w K mg base CX0 4 A.f__law_keys A.d__law_keys ["draw", "most", "span"] (spKeys K) := by
  refine T.F__law_keys.ok sc__law_keys (fun vs H Q E h => ?_) (fun cdv B outer s H vs Q E hr h => ?_)
  · obtain ⟨d, a, ns, k, m, s, rfl, _⟩ := h
    rfl
  · obtain ⟨d, a, ns, k, m, sp, rfl, dr, hk, hm, hs, q⟩ := h
    have nd := sc__law_keys.nd
    refine ⟨_, pss_one (ps_ret (pe_lc (own := [("turn", 3)]) (g := gName 3) (tt := tYes) rfl nd (pi_range1 rfl T.g_range (pa_cons (pe_call (ok_take T) hr (by rfl) T.m__law_take T.F__law_take.kp (b_take T) .nil pass0 (pa_cons (pv 0) (pa_cons (pe_op op_add (pv 1) pe_int) pa_nil))) pa_nil))
      (blkOk_by (own := [("turn", 3)]) (N := ["draw", "most", "span", "turn"]) (sc := defScope s__law_keys) (by decide +kernel))
      (fun _ _ _ _ _ => pg_name (i := 3) nd rfl (Or.inl rfl)) (fun _ _ _ _ _ => pts_nil)
      (fun _ _ _ _ _ => pe_op op_sub (pe_call (ok_take T) hr (by rfl) T.m__law_take T.F__law_take.kp (b_take T) .nil pass0 (pa_cons (pv 0) (pa_cons (pv 2) pa_nil)))
        (pe_callTy call_int1 (by rfl) T.g_int (by decide +kernel) (pa_cons (pe_op op_fdiv (pv 2) pe_int) pa_nil))))), ?_⟩
    refine ⟨_, rfl, _, rfl, _, _, rfl, rfl, d, a, ns, k, m + 1, rfl, dr, by omega, by omega, fun H1 r b1 dr1 hr1 => ?_⟩
    refine ⟨_, rfl, by omega, by omega, fun D hD => ?_⟩
    rw [Int.toNat_natCast]
    have hDd : D ≠ d := fun z => by rw [z, dr1.l] at hD; cases hD
    have hD0 : H D = none := by
      cases e : H D with
      | none => rfl
      | some o => rw [b1 D o hDd e] at hD; cases hD
    refine lc_it (walk_range (lo := 0) (n := r)) (fun i H' => ∃ ks : List Int, H' D = some (.lst (ks.map V.int)) ∧ ks.length = i ∧ (∀ z ∈ ks, -((sp : Int) / 2) ≤ z ∧ z < (sp : Int) - (sp : Int) / 2) ∧ But d H H' ∧ DrAt K H' d a ns (k + 1 + i))
      ⟨[], upd_same, rfl, fun z hz => (nomatch hz), ?_, ?_⟩ (fun k H' _ h => trivial) ?_ ?_
    · exact b1.trans (But.of (Same.up hD))
    · exact ⟨(Same.up hD) _ _ dr1.l, dr1.n, (Same.up hD).seq dr1.s, dr1.h⟩
    · rintro i x H2 H3 hi ⟨ks, h1, h2, h3, h4, h5⟩ ⟨rfl, ex⟩
      refine ⟨rfl, ?_⟩
      refine iteT (B := ∃ ks : List Int, H3 D = some (.lst (ks.map V.int)) ∧ ks.length = i + 1 ∧ (∀ z ∈ ks, -((sp : Int) / 2) ≤ z ∧ z < (sp : Int) - (sp : Int) / 2) ∧ But d H H3 ∧ DrAt K H3 d a ns (k + 1 + (i + 1))) ?_
      refine ⟨_, rfl, _, rfl, d, a, ns, k + 1 + i, sp, rfl, h5, by omega, hs, fun H4 v b4 dr4 hv => ?_⟩
      refine ⟨_, rfl, _, _, rfl, rfl, ⟨by decide, by decide⟩, .inl ⟨_, rfl, _, _, rfl, rfl, ?_⟩⟩
      have bf : ∀ zs : List V, But d H (upd H4 D (.lst zs)) := fun zs b o hb e => by
        rw [upd_ne (ne_of_none e hD0)]
        exact b4 _ _ hb (h4 b o hb e)
      refine ⟨_, b4 _ _ hDd h1, small1000 (by rw [List.length_map]; omega), ks ++ [(v : Int) - (sp : Int) / 2], ?_, by rw [List.length_append, h2]; rfl, ?_, ?_, ?_⟩
      · rw [upd_same, List.map_append]
        rfl
      · intro z hz
        rcases List.mem_append.mp hz with hz | hz
        · exact h3 z hz
        · rw [List.mem_singleton.mp hz]
          omega
      · exact bf _
      · exact ⟨by rw [upd_ne hDd.symm]; exact dr4.l, dr4.n, (bf _).seq dr.s dr.n, dr4.h⟩
    · rintro H2 ⟨ks, h1, h2, h3, h4, h5⟩
      exact q _ D ks _ h4 h5 (by omega) (by omega) h3 hD0 h1
theorem b_keys (T : Tx K mg A) : L2.Binds K A.d__law_keys ["draw", "most", "span"] [] := T.F__law_keys.binds fun _ _ _ _ _ _ us hl => match us, hl with | [_, _, _], _ => rfl
theorem kb_of (T : Tx K mg A) : ∃ mv : List Value, KBn K A.d_t_of ["cls", "row", "arms"] 2 ["arms"] (fun us ws => us ++ (mv ++ ws)) (fun vs zs => vs ++ zs) := by
  obtain ⟨mv, h⟩ := T.F_t_of.kbinds0 (ps := ["cls", "row", "arms"]) 2 ["arms"] [] (fun us mv ws => us ++ (mv ++ ws)) (by simp) (by simp) (fun r1 r2 r3 => r1.append (r2.append r3))
    (fun D doc pm an cdv ct us mv ws h1 h2 h3 => by
      match us, mv, ws, h1, h2, h3 with
      | [a, b], [], [c], _, _, _ => rfl)
  exact ⟨mv, h⟩
theorem TreeAt.but {C d : Addr} {H H' : Hp} {p n w : Nat} {xs : List V} (h : TreeAt C H p n w) (s : But d H H') (hd : H d = some (.lst xs)) : TreeAt C H' p n w := by
  obtain ⟨dx, t, a, b⟩ := h.ob
  exact ⟨⟨dx, t, s _ _ (ne_of a hd (by intro z; cases z)) a, s _ _ (ne_of b hd (by intro z; cases z)) b⟩, h.hn, h.hw⟩
/-- what stood before an instance was made stands behind its making -/
theorem new_same {C x dx : Addr} {H H' : Hp} (nx : H x = none) (ndx : H dx = none) (k : ∀ b o, (upd (upd H dx (.own x)) x (.ins C dx [])) b = some o → b ≠ x → H' b = some o) : Same H H' := fun b o e => by
  refine k b o ?_ (ne_of_none e nx)
  rw [upd_ne (ne_of_none e nx), upd_ne (ne_of_none e ndx)]
  exact e

def spPick (K : PySem.W.Frag) : Sp := fun vs H Q _ => ∃ (d a b : Addr) (ns zs : List Int) (k : Nat), vs = [.ref d, .ref b] ∧ DrAt K H d a ns k ∧ k < 50000 ∧ H b = some (.lst (zs.map V.int)) ∧ b ≠ d ∧ 0 < zs.length ∧
  ∀ (H' : Hp) (z : Int), But d H H' → DrAt K H' d a ns (k + 1) → z ∈ zs → Q (.int z) H'
theorem ok_pick (T : Tx K mg A) : FnOk P w K mg base CX0 4 A.f__law_pick A.d__law_pick ["draw", "things"] (spPick K) := by
  refine T.F__law_pick.ok sc__law_pick (fun vs H Q E h => ?_) (fun cdv B outer s H vs Q E hr h => ?_)
  · obtain ⟨d, a, b, ns, zs, k, rfl, _⟩ := h
    rfl
  · obtain ⟨d, a, b, ns, zs, k, rfl, dr, hk, hb, hbd, hz, q⟩ := h
    refine ⟨_, pss_one (ps_ret (pe_ix ix_list (pv 1) (pe_call (ok_take T) hr (by rfl) T.m__law_take T.F__law_take.kp (b_take T) .nil pass0 (pa_cons (pv 0) (pa_cons (pe_callB call_len_seq (by rfl) T.g_len PySem.boot_len (pa_cons (pv 1) pa_nil)) pa_nil))) (fun _ _ => rfl))), ?_⟩
    refine ⟨_, rfl, _, rfl, _, rfl, b, _, rfl, .inl (SqL.of hb), d, a, ns, k, (zs.map V.int).length, rfl, dr, by omega, by rw [List.length_map]; exact hz, fun H1 r b1 dr1 hr1 => ?_⟩
    rw [List.length_map] at hr1
    have e : (zs.map V.int)[r]? = some (V.int zs[r]) := by rw [List.getElem?_map, List.getElem?_eq_getElem hr1]; rfl
    exact ⟨b, _, _, _, rfl, rfl, SqL.of (b1 _ _ hbd hb), atI_nat e, q H1 _ b1 dr1 (List.getElem_mem hr1)⟩
theorem b_pick (T : Tx K mg A) : L2.Binds K A.d__law_pick ["draw", "things"] [] := T.F__law_pick.binds fun _ _ _ _ _ _ us hl => match us, hl with | [_, _], _ => rfl
def spArm (K : PySem.W.Frag) : Sp := fun vs H Q _ => ∃ (d a : Addr) (ns : List Int) (k : Nat), vs = [.ref d] ∧ DrAt K H d a ns k ∧ k < 50000 ∧
  ∀ (H' : Hp) (w : Nat), But d H H' → DrAt K H' d a ns (k + 1) → (1 ≤ w ∧ w ≤ 4) → Q (.int w) H'
theorem ok_arm (T : Tx K mg A) : FnOk P w K mg base CX0 5 A.f__law_arms A.d__law_arms ["draw"] (spArm K) := by
  refine T.F__law_arms.ok sc__law_arms (fun vs H Q E h => ?_) (fun cdv B outer s H vs Q E hr h => ?_)
  · obtain ⟨d, a, ns, k, rfl, _⟩ := h
    rfl
  · obtain ⟨d, a, ns, k, rfl, dr, hk, q⟩ := h
    refine ⟨_, pss_one (ps_ret (pe_call (ok_pick T) hr (by rfl) T.m__law_pick T.F__law_pick.kp (b_pick T) .nil pass0 (pa_cons (pv 0) (pa_cons (pe_lst (pa_cons pe_int (pa_cons pe_int (pa_cons pe_int (pa_cons pe_int (pa_cons pe_int (pa_cons pe_int pa_nil))))))) pa_nil)))), ?_⟩
    refine ⟨_, rfl, by show 6 ≤ sizeLine; decide, fun b hb => ?_⟩
    have hbd : b ≠ d := fun z => by rw [z, dr.l] at hb; cases hb
    refine ⟨d, a, b, ns, [2, 2, 2, 3, 1, 4], k, rfl, dr.same (Same.up hb), hk, upd_same, hbd, by decide, fun H1 z b1 dr1 hz => ?_⟩
    have h4 : 1 ≤ z ∧ z ≤ 4 := by
      simp only [List.mem_cons, List.not_mem_nil, or_false] at hz
      omega
    obtain ⟨w, rfl⟩ : ∃ w : Nat, z = (w : Int) := ⟨z.toNat, by omega⟩
    exact q H1 w ((But.of (Same.up hb)).trans b1) dr1 ⟨by omega, by omega⟩
theorem b_arm (T : Tx K mg A) : L2.Binds K A.d__law_arms ["draw"] [] := T.F__law_arms.binds fun _ _ _ _ _ _ us hl => match us, hl with | [_], _ => rfl
end
end Tw

set_option Elab.async false
set_option linter.all false
set_option maxRecDepth 100000
set_option maxHeartbeats 2000000
namespace Tw
open PySem PySem.Spec PyProof.Rows L2
section
variable {P : Program} {w : World} {K : PySem.W.Frag} {mg : Str → Option Value} {base : Heap} {A : Ad}
/-! a key goes up, a key goes down -/
def keyAt (ks : List Int) (p : Nat) : Int := ks.getD p 0
def swp (ks : List Int) (a b : Nat) : List Int := (ks.set a (keyAt ks b)).set b (keyAt ks a)
theorem swp_len (ks : List Int) (a b : Nat) : (swp ks a b).length = ks.length := by unfold swp; rw [List.length_set, List.length_set]
def goUp (w : Nat) : Nat → List Int → Nat → List Nat → Nat → List Int × List Nat × Nat
  | 0, ks, _, way, lk => (ks, way, lk)
  | f + 1, ks, p, way, lk => if p = 0 then (ks, way, lk) else
      if keyAt ks p < keyAt ks ((p - 1) / w) then goUp w f (swp ks p ((p - 1) / w)) ((p - 1) / w) (way ++ [(p - 1) / w]) (lk + 1) else (ks, way, lk + 1)
def leastC (ks : List Int) (l : List Nat) : Nat := l.getD (PySem.argBest (fun i j => decide (keyAt ks (l.getD i 0) < keyAt ks (l.getD j 0))) (l.length - 1)) 0
theorem least_of {ks : List Int} {l : List Nat} {j : Nat} (h : Cl.FirstLeast (fun i => keyAt ks (l.getD i 0)) l.length j) : l.getD j 0 = leastC ks l := by
  have h0 := h.1
  obtain ⟨n, en⟩ : ∃ n, l.length = n + 1 := ⟨l.length - 1, by omega⟩
  have b := Cl.best_is (fun i => keyAt ks (l.getD i 0)) n
  rw [← en] at b
  unfold leastC
  rw [Cl.first_one h b, show l.length - 1 = n by omega]
theorem least_mem {ks : List Int} {l : List Nat} (h : l ≠ []) : leastC ks l ∈ l := by
  obtain ⟨n, en⟩ : ∃ n, l.length = n + 1 := ⟨l.length - 1, by have := List.length_pos_iff.mpr h; omega⟩
  have b := Cl.best_is (fun i => keyAt ks (l.getD i 0)) n
  rw [← en] at b
  rw [← least_of b, List.getD_eq_getElem?_getD, List.getElem?_eq_getElem b.1]
  exact List.getElem_mem b.1
def goDown (n w : Nat) : Nat → List Int → Nat → List Nat → Nat → List Int × List Nat × Nat
  | 0, ks, _, way, lk => (ks, way, lk)
  | f + 1, ks, p, way, lk => if kidL n w p = [] then (ks, way, lk) else
      if keyAt ks (leastC ks (kidL n w p)) < keyAt ks p then goDown n w f (swp ks p (leastC ks (kidL n w p))) (leastC ks (kidL n w p)) (way ++ [leastC ks (kidL n w p)]) (lk + (kidL n w p).length)
      else (ks, way, lk + (kidL n w p).length)
theorem up_chain : ∀ w, w < 5 → ∀ p, p < 13 → 1 ≤ w → ∀ i, i < (upL w p).length - 1 → (upL w p).getD i 0 ≠ 0 ∧ ((upL w p).getD i 0 - 1) / w = (upL w p).getD (i + 1) 0 := by decide +kernel
theorem up_ends : ∀ w, w < 5 → ∀ p, p < 13 → 1 ≤ w → (upL w p).getD ((upL w p).length - 1) 0 = 0 ∧ 1 ≤ (upL w p).length ∧ (upL w p).getD 0 0 = p ∧ ∀ i, i < (upL w p).length → (upL w p).getD i 0 ≤ p := by decide +kernel
theorem kid_len : ∀ n, n < 13 → ∀ w, w < 5 → ∀ i, i < n → 1 ≤ w → (kidL n w i).length ≤ 4 := by decide +kernel
theorem kid_in {n w i j : Nat} (hw : 1 ≤ w) (h : j ∈ kidL n w i) : i < j ∧ j < n := by
  unfold kidL at h
  obtain ⟨k, hk, rfl⟩ := List.mem_map.mp h
  obtain ⟨h1, h2⟩ := List.mem_filter.mp hk
  have h1 := List.mem_range.mp h1
  have h2 := of_decide_eq_true h2
  have : k / w ≤ k := Nat.div_le_self _ _
  omega
theorem up_res (w : Nat) : ∀ f ks p way lk, (goUp w f ks p way lk).1.length = ks.length
  | 0, ks, p, way, lk => rfl
  | f + 1, ks, p, way, lk => by
    unfold goUp
    split
    · rfl
    · split
      · rw [up_res w f, swp_len]
      · rfl
theorem down_res (n w : Nat) : ∀ f ks p way lk, (goDown n w f ks p way lk).1.length = ks.length
  | 0, ks, p, way, lk => rfl
  | f + 1, ks, p, way, lk => by
    unfold goDown
    split
    · rfl
    · split
      · rw [down_res n w f, swp_len]
      · rfl
/-! what a sift tells -/
theorem m1 : ¬ (("row" : Str) = "way") := by decide +kernel
theorem m2 : ¬ (("row" : Str) = "looks") := by decide +kernel
theorem m3 : ¬ (("way" : Str) = "looks") := by decide +kernel
def zf (t1 t2 lk : Nat) : List (Str × V) := putF "looks" (.int lk) (putF "way" (.ref t2) (putF "row" (.ref t1) []))
theorem zf_row (t1 t2 lk : Nat) : (zf t1 t2 lk).lookup ("row" : Str) = some (.ref t1) := by
  unfold zf
  rw [lookup_putF, if_neg m2, lookup_putF, if_neg m1, lookup_putF, if_pos rfl]
theorem zf_way (t1 t2 lk : Nat) : (zf t1 t2 lk).lookup ("way" : Str) = some (.ref t2) := by
  unfold zf
  rw [lookup_putF, if_neg m3, lookup_putF, if_pos rfl]
theorem zf_looks (t1 t2 lk : Nat) : (zf t1 t2 lk).lookup ("looks" : Str) = some (.int lk) := by
  unfold zf
  rw [lookup_putF, if_pos rfl]
/-- a Sift stands at p -/
def SiftAt (C : Addr) (H : Hp) (p : Addr) (ks ws : List Int) (lk : Nat) : Prop := ∃ (dx t1 t2 : Addr), H p = some (.ins C dx (zf t1 t2 lk)) ∧ H t1 = some (.tup (ks.map V.int)) ∧ H t2 = some (.tup (ws.map V.int))
theorem SiftAt.ext {C : Addr} {H H' : Hp} {p : Addr} {ks ws : List Int} {lk : Nat} (h : SiftAt C H p ks ws lk) (e : ∀ b o, H b = some o → (∀ ps, o ≠ .tbl ps) → H' b = some o) : SiftAt C H' p ks ws lk := by
  obtain ⟨dx, t1, t2, a, b, c⟩ := h
  exact ⟨dx, t1, t2, e _ _ a (fun ps z => nomatch z), e _ _ b (fun ps z => nomatch z), e _ _ c (fun ps z => nomatch z)⟩
theorem SiftAt.same {C : Addr} {H H' : Hp} {p : Addr} {ks ws : List Int} {lk : Nat} (h : SiftAt C H p ks ws lk) (s : Same H H') : SiftAt C H' p ks ws lk := h.ext fun b o e _ => s b o e
def spZi (C : Addr) : Sp := fun vs H Q _ => ∃ (p dx a b lk : Nat) (ks ws : List Int), vs = [.ref p, .ref a, .ref b, .int lk] ∧ H p = some (.ins C dx []) ∧ Sq H a (ks.map V.int) ∧ Sq H b (ws.map V.int) ∧ 
  ∀ (H' : Hp), (∀ b o, H b = some o → b ≠ p → H' b = some o) → SiftAt C H' p ks ws lk → Q .non H'
theorem ok_zi (T : Tx K mg A) : FnOk P w K mg base CX0 2 A.f_z___init__ A.d_z___init__ ["self", "row", "way", "looks"] (spZi A.CS) := by
  refine T.F_z___init__.ok sc_z___init__ (fun vs H Q E h => ?_) (fun cdv B outer s H vs Q E hr h => ?_)
  · obtain ⟨p, dx, a, b, lk, ks, ws, rfl, _⟩ := h
    rfl
  · obtain ⟨p, dx, a, b, lk, ks, ws, rfl, hp, ha, hb, q⟩ := h
    refine ⟨_, C8.pss_cut (ps_fld (pv 0) (pe_callTy call_tuple_of (by rfl) T.g_tuple (by decide +kernel) (pa_cons (pv 1) pa_nil)) rfl)
      (C8.pss_cut (ps_fld (pv 0) (pe_callTy call_tuple_of (by rfl) T.g_tuple (by decide +kernel) (pa_cons (pv 2) pa_nil)) rfl)
      (pss_one (ps_fld (pv 0) (pv 3) rfl))), ?_⟩
    have npa : p ≠ a := fun z => by rcases ha with h | h <;> rw [← z, hp] at h <;> cases h
    have npb : p ≠ b := fun z => by rcases hb with h | h <;> rw [← z, hp] at h <;> cases h
    refine ⟨fun σ H' => ∃ t1 : Addr, σ = L2.start ["self", "row", "way", "looks"] [.ref p, .ref a, .ref b, .int lk] ∧ (∀ c o, H c = some o → c ≠ p → H' c = some o) ∧ H' p = some (.ins A.CS dx (putF "row" (.ref t1) [])) ∧ H' t1 = some (.tup (ks.map V.int)) ∧ t1 ≠ p, ?_, ?_⟩
    · have go : ∀ (H1 : Hp) (t1 : Addr), Same H H1 → H1 t1 = some (.tup (ks.map V.int)) → ∃ t2 : Addr, (L2.start ["self", "row", "way", "looks"] [.ref p, .ref a, .ref b, .int lk]) = L2.start ["self", "row", "way", "looks"] [.ref p, .ref a, .ref b, .int lk] ∧ (∀ c o, H c = some o → c ≠ p → upd H1 p (.ins A.CS dx (putF "row" (.ref t1) [])) c = some o) ∧ upd H1 p (.ins A.CS dx (putF "row" (.ref t1) [])) p = some (.ins A.CS dx (putF "row" (.ref t2) [])) ∧ upd H1 p (.ins A.CS dx (putF "row" (.ref t1) [])) t2 = some (.tup (ks.map V.int)) ∧ t2 ≠ p := fun H1 t1 s1 e1 => by
        have n1 : t1 ≠ p := fun z => by rw [z, s1 _ _ hp] at e1; cases e1
        exact ⟨t1, rfl, fun c o e n => by rw [upd_ne n]; exact s1 _ _ e, upd_same, by rw [upd_ne n1]; exact e1, n1⟩
      rcases ha with h | h
      · exact ⟨_, rfl, a, _, rfl, .inl ⟨SqL.of h, fun t1 ht1 => ⟨_, rfl, p, A.CS, dx, _, rfl, (Same.up ht1) _ _ hp, T.cTS, T.nRow, (by show 0 < 1000; decide), go _ t1 (Same.up ht1) upd_same⟩⟩⟩
      · exact ⟨_, rfl, a, _, rfl, .inr ⟨SqT.of h, _, rfl, p, A.CS, dx, _, rfl, hp, T.cTS, T.nRow, (by show 0 < 1000; decide), go H a (Same.refl _) h⟩⟩
    rintro σ H1 ⟨t1, rfl, k1, hp1, e1, n1⟩
    have hb1 : Sq H1 b (ws.map V.int) := hb.elim (fun h => .inl (k1 _ _ h npb.symm)) fun h => .inr (k1 _ _ h npb.symm)
    refine ⟨fun σ H' => ∃ t2 : Addr, σ = L2.start ["self", "row", "way", "looks"] [.ref p, .ref a, .ref b, .int lk] ∧ (∀ c o, H1 c = some o → c ≠ p → H' c = some o) ∧ H' p = some (.ins A.CS dx (putF "way" (.ref t2) (putF "row" (.ref t1) []))) ∧ H' t2 = some (.tup (ws.map V.int)) ∧ t2 ≠ p, ?_, ?_⟩
    · have go : ∀ (H2 : Hp) (t2 : Addr), Same H1 H2 → H2 t2 = some (.tup (ws.map V.int)) → ∃ t3 : Addr, (L2.start ["self", "row", "way", "looks"] [.ref p, .ref a, .ref b, .int lk]) = L2.start ["self", "row", "way", "looks"] [.ref p, .ref a, .ref b, .int lk] ∧ (∀ c o, H1 c = some o → c ≠ p → upd H2 p (.ins A.CS dx (putF "way" (.ref t2) (putF "row" (.ref t1) []))) c = some o) ∧ upd H2 p (.ins A.CS dx (putF "way" (.ref t2) (putF "row" (.ref t1) []))) p = some (.ins A.CS dx (putF "way" (.ref t3) (putF "row" (.ref t1) []))) ∧ upd H2 p (.ins A.CS dx (putF "way" (.ref t2) (putF "row" (.ref t1) []))) t3 = some (.tup (ws.map V.int)) ∧ t3 ≠ p := fun H2 t2 s2 e2 => by
        have n2 : t2 ≠ p := fun z => by rw [z, s2 _ _ hp1] at e2; cases e2
        exact ⟨t2, rfl, fun c o e n => by rw [upd_ne n]; exact s2 _ _ e, upd_same, by rw [upd_ne n2]; exact e2, n2⟩
      rcases hb1 with h | h
      · exact ⟨_, rfl, b, _, rfl, .inl ⟨SqL.of h, fun t2 ht2 => ⟨_, rfl, p, A.CS, dx, _, rfl, (Same.up ht2) _ _ hp1, T.cTS, T.nWay, (by show 1 < 1000; decide), go _ t2 (Same.up ht2) upd_same⟩⟩⟩
      · exact ⟨_, rfl, b, _, rfl, .inr ⟨SqT.of h, _, rfl, p, A.CS, dx, _, rfl, hp1, T.cTS, T.nWay, (by show 1 < 1000; decide), go H1 b (Same.refl _) h⟩⟩
    rintro σ H2 ⟨t2, rfl, k2, hp2, e2, n2⟩
    refine ⟨_, rfl, _, rfl, p, A.CS, dx, _, rfl, hp2, T.cTS, T.nLooks, (by simp only [putF, m1, if_false]; show 2 < 1000; decide), ?_⟩
    refine q _ (fun c o e hc => ?_) ⟨dx, t1, t2, upd_same, ?_, ?_⟩
    · rw [upd_ne hc]
      exact k2 _ _ (k1 _ _ e hc) hc
    · rw [upd_ne n1]
      exact k2 _ _ e1 n1
    · rw [upd_ne n2]
      exact e2
theorem b_zi (T : Tx K mg A) : L2.Binds K A.d_z___init__ ["self", "row", "way", "looks"] [] := T.F_z___init__.binds fun _ _ _ _ _ _ us hl => match us, hl with | [_, _, _, _], _ => rfl
theorem b_zq (T : Tx K mg A) : L2.Binds K A.d_z___eq__ ["self", "other"] [] := T.F_z___eq__.binds fun _ _ _ _ _ _ us hl => match us, hl with | [_, _], _ => rfl
theorem ints_tup (K : PySem.W.Frag) {H : Hp} {a : Addr} {ks : List Int} (h : H a = some (.tup (ks.map V.int))) : Dp K H (.ref a) (.tuple (ks.map PyData.int)) := .tup (SqT.of h) (ints_dp K H ks)
theorem ints_shT (ks : List Int) : SeqAt.shaped (.tuple (ks.map PyData.int)) = true := by
  have h := shaped_ints ks
  unfold SeqAt.shaped at h ⊢
  simp only [PyData.canLay0, PyData.depth] at h ⊢
  exact h
theorem ints_all : ∀ ks ms : List Int, PyData.eqvAll (ks.map PyData.int) (ms.map PyData.int) = decide (ks = ms)
  | [], [] => by simp [PyData.eqvAll]
  | [], m :: ms => by simp [PyData.eqvAll]
  | k :: ks, [] => by simp [PyData.eqvAll]
  | k :: ks, m :: ms => by
    simp only [List.map_cons, PyData.eqvAll, ints_all ks ms, PyData.eqv]
    by_cases h1 : k = m
    · by_cases h2 : ks = ms <;> simp [h1, h2]
    · simp [h1]
theorem ints_eqv (ks ms : List Int) : PyData.eqv (.tuple (ks.map PyData.int)) (.tuple (ms.map PyData.int)) = decide (ks = ms) := by
  rw [← ints_all]
  simp [PyData.eqv]
def spZq (C : Addr) : Sp := fun vs H Q _ => ∃ (p lk : Nat) (ks ws : List Int) (y : V), vs = [.ref p, y] ∧ SiftAt C H p ks ws lk ∧
  ((∃ (p2 lk2 : Nat) (ks2 ws2 : List Int), y = .ref p2 ∧ SiftAt C H p2 ks2 ws2 lk2 ∧ Q (.bl (decide (ks = ks2 ∧ ws = ws2 ∧ lk = lk2))) H) ∨ (∃ (t : Addr) (xs : List V), y = .ref t ∧ H t = some (.tup xs) ∧ Q (.bl false) H))
theorem ok_zq (T : Tx K mg A) : FnOk P w K mg base CX0 2 A.f_z___eq__ A.d_z___eq__ ["self", "other"] (spZq A.CS) := by
  refine T.F_z___eq__.ok sc_z___eq__ (fun vs H Q E h => ?_) (fun cdv B outer s H vs Q E hr h => ?_)
  · obtain ⟨p, lk, ks, ws, y, rfl, _⟩ := h
    rfl
  · obtain ⟨p, lk, ks, ws, y, rfl, ⟨dx, t1, t2, h1, h2, h3⟩, h⟩ := h
    have hu := hr.units
    refine ⟨_, pss_one (ps_ret (pe_and (pe_callB call_isi (by rfl) T.g_isinstance (by decide +kernel) (pa_cons (pv 1) (pa_cons (pe_glob (v := .ref A.CS) (by rfl) T.mCS (relR _)) pa_nil)))
      (pe_and (pe_cmpR (op_eqD hu) (pe_fld (pv 0) rfl) (pe_fld (pv 1) rfl) (nomark _)) (pe_and (pe_cmpR (op_eqD hu) (pe_fld (pv 0) rfl) (pe_fld (pv 1) rfl) (nomark _)) (pe_one (pe_cmpR op_eq (pe_fld (pv 0) rfl) (pe_fld (pv 1) rfl) (nomark _))))))), ?_⟩
    rcases h with ⟨p2, lk2, ks2, ws2, rfl, ⟨dx2, u1, u2, g1, g2, g3⟩, q⟩ | ⟨t, xs, rfl, ht, q⟩
    · refine ⟨_, rfl, _, _, .ref A.CS, .ref A.CS, true, rfl, .own A.CS, .base (.ins g1 T.cTS T.kaS T.knS T.ktkS T.kmS), (by unfold PySem.W.kitOne; rw [if_pos (by simp)]), true, rfl, iteT ?_⟩
      refine ⟨_, rfl, p, A.CS, dx, _, _, rfl, h1, T.cTS, T.nRow, zf_row _ _ _, _, rfl, p2, A.CS, dx2, _, _, rfl, g1, T.cTS, T.nRow, zf_row _ _ _, _, _, ints_tup K h2, ints_tup K g2, ints_shT _, ints_shT _, _, rfl, ?_⟩
      rw [ints_eqv]
      by_cases e1 : ks = ks2
      · rw [decide_eq_true e1]
        refine iteT ⟨_, rfl, p, A.CS, dx, _, _, rfl, h1, T.cTS, T.nWay, zf_way _ _ _, _, rfl, p2, A.CS, dx2, _, _, rfl, g1, T.cTS, T.nWay, zf_way _ _ _, _, _, ints_tup K h3, ints_tup K g3, ints_shT _, ints_shT _, _, rfl, ?_⟩
        rw [ints_eqv]
        by_cases e2 : ws = ws2
        · rw [decide_eq_true e2]
          refine iteT ⟨_, rfl, p, A.CS, dx, _, _, rfl, h1, T.cTS, T.nLooks, zf_looks _ _ _, _, rfl, p2, A.CS, dx2, _, _, rfl, g1, T.cTS, T.nLooks, zf_looks _ _ _, rfl, ?_⟩
          have e : decide (ks = ks2 ∧ ws = ws2 ∧ lk = lk2) = decide (V.int (lk : Nat) = V.int (lk2 : Nat)) := by
            by_cases e3 : lk = lk2
            · rw [decide_eq_true ⟨e1, e2, e3⟩, decide_eq_true (by rw [e3])]
            · rw [decide_eq_false (fun z => e3 z.2.2), decide_eq_false (fun z => e3 (by injection z with z; omega))]
          rw [e] at q
          exact q
        · rw [decide_eq_false e2]
          rw [decide_eq_false (show ¬ (ks = ks2 ∧ ws = ws2 ∧ lk = lk2) from fun z => e2 z.2.1)] at q
          exact iteF q
      · rw [decide_eq_false e1]
        rw [decide_eq_false (show ¬ (ks = ks2 ∧ ws = ws2 ∧ lk = lk2) from fun z => e1 z.1)] at q
        exact iteF q
    · exact ⟨_, rfl, _, _, .type "tuple", .ref A.CS, false, rfl, .own A.CS, .base (.tup ht), T.kiS_tuple, false, rfl, iteF q⟩

end
end Tw

set_option Elab.async false
set_option linter.all false
set_option maxRecDepth 100000
set_option maxHeartbeats 2000000
namespace Tw
open PySem PySem.Spec PyProof.Rows L2
section
variable {P : Program} {w : World} {K : PySem.W.Frag} {mg : Str → Option Value} {base : Heap} {A : Ad}
/-- least_child -/
def spLc (K : PySem.W.Frag) (A : Ad) : Sp := fun vs H Q _ => ∃ (l a : Addr) (ks ns : List Int), vs = [.ref l, .ref a] ∧ SqL K H l (ks.map V.int) ∧ SqT K H a (ns.map V.int) ∧ 0 < ns.length ∧ (∀ n ∈ ns, 0 ≤ n ∧ n < ks.length) ∧ LamX.Tabs (TT A) H ∧
  ∀ (m : Int) (H' : Hp), LamX.ExtN H H' → LamX.Tabs (TT A) H' → Cl.LeastAt ks ns m → Q (.int m) H'
theorem ok_lc (T : Tx K mg A) (TB : LamX.TabB base mg A.c_least_child A.P_least_child) : FnOk P w K mg base CX0 2 A.f_least_child A.d_least_child ["keys", "children"] (spLc K A) := by
  obtain ⟨oc, od, kV, doc, pm, an, ct, osl, ed, lk, hcd⟩ := T.L_least_child
  rw [ed] at lk ⊢
  refine fn_of lk hcd sc_least_child (fun vs H Q E h => ?_) (fun B outer s H vs Q E hr h => ?_)
  · obtain ⟨l, a, ks, ns, rfl, _⟩ := h
    rfl
  · obtain ⟨l, a, ks, ns, rfl, hl, ha, hne, hin, hT, q⟩ := h
    refine ⟨_, PSs.nox (pss_one (ps_ret (Cl.pe_minlam (T := TT A) (x := "place") (y := "keys") (j := 0) (by rfl) T.g_min (pv 1) hr.depth hr.hd TB rfl (List.mem_singleton.mpr rfl) (fun p hp _ => by rw [List.mem_singleton.mp hp]; rfl)
      ⟨rfl, rfl, rfl, by decide +kernel, by decide +kernel, by decide +kernel⟩ (show (defScope s_least_child).names.lookup ("keys" : Str) = some NameKind.cell by decide +kernel) (by decide +kernel) rfl rfl (fun _ _ _ _ _ _ => rfl)))), ?_⟩
    exact ⟨_, rfl, a, l, ns, ks, rfl, ha, rfl, hl, hne, hin, hT, fun m H2 e t lm => q m H2 e t lm⟩
theorem b_lc (T : Tx K mg A) : L2.Binds K A.d_least_child ["keys", "children"] [] := T.F_least_child.binds fun _ _ _ _ _ _ us hl => match us, hl with | [_, _], _ => rfl

end
end Tw

set_option Elab.async false
set_option linter.all false
set_option maxRecDepth 100000
set_option maxHeartbeats 2000000
namespace Tw
open PySem PySem.Spec PyProof.Rows L2
section
variable {P : Program} {w : World} {K : PySem.W.Frag} {mg : Str → Option Value} {base : Heap} {A : Ad}
/-! going up -/
def RowIn (H : Hp) (a : Addr) (ns : List Int) : Prop := Sq H a (ns.map V.int) ∧ ns.length ≤ 12 ∧ (∀ n ∈ ns, -1000000000 ≤ n ∧ n ≤ 1000000000)
theorem RowIn.same {H H' : Hp} {a : Addr} {ns : List Int} (h : RowIn H a ns) (s : Same H H') : RowIn H' a ns := ⟨h.1.same s, h.2⟩
def wz (l : List Nat) : List Int := l.map fun i => ((i : Nat) : Int)
theorem vi_wz (l : List Nat) : vi l = (wz l).map V.int := vi_ints l
/-- two lists of one's own -/
structure Two (H : Hp) (D W : Addr) (xs ys : List V) (H' : Hp) : Prop where
  s : Same H H'
  d : H' D = some (.lst xs)
  w : H' W = some (.lst ys)
  nD : H D = Option.none
  nW : H W = Option.none
  ne : D ≠ W
theorem Two.setD {H H' : Hp} {D W : Addr} {xs ys zs : List V} (h : Two H D W xs ys H') : Two H D W zs ys (upd H' D (.lst zs)) :=
  ⟨fun b o e => by rw [upd_ne (ne_of_none e h.nD)]; exact h.s _ _ e, upd_same, by rw [upd_ne h.ne.symm]; exact h.w, h.nD, h.nW, h.ne⟩
theorem Two.setW {H H' : Hp} {D W : Addr} {xs ys zs : List V} (h : Two H D W xs ys H') : Two H D W xs zs (upd H' W (.lst zs)) :=
  ⟨fun b o e => by rw [upd_ne (ne_of_none e h.nW)]; exact h.s _ _ e, by rw [upd_ne h.ne]; exact h.d, upd_same, h.nD, h.nW, h.ne⟩
theorem Two.same {H H' H2 : Hp} {D W : Addr} {xs ys : List V} (h : Two H D W xs ys H') (s : Same H' H2) : Two H D W xs ys H2 := ⟨h.s.trans s, s _ _ h.d, s _ _ h.w, h.nD, h.nW, h.ne⟩
theorem key_at {ks : List Int} {p : Nat} (h : p < ks.length) : atI (ks.map V.int) (p : Int) = some (V.int (keyAt ks p)) := by
  have e : (ks.map V.int)[p]? = some (V.int (keyAt ks p)) := by
    unfold keyAt
    rw [List.getElem?_map, List.getD_eq_getElem?_getD, List.getElem?_eq_getElem h]
    rfl
  exact atI_nat e
theorem ixN_nat {n p : Nat} (h : p < n) : ixN n (p : Int) = some p := by
  unfold ixN
  rw [if_pos (by omega), if_pos (by omega), Int.toNat_natCast]
theorem last_at {xs : List V} {y : V} : atI (xs ++ [y]) (-1) = some y := by
  unfold atI ixN
  rw [if_neg (by omega), if_pos (by simp; omega), show ((-1 : Int) + ((xs ++ [y]).length : Nat)).toNat = xs.length by rw [List.length_append, List.length_singleton]; omega]
  simp
theorem set_int (ks : List Int) (p : Nat) (v : Int) : (ks.map V.int).set p (V.int v) = (ks.set p v).map V.int := (List.map_set ..).symm
theorem cut_last (xs : List V) (h : xs ≠ []) : cutV xs none (some (-1)) = xs.take (xs.length - 1) ∧ ¬ (HT.sIx xs.length 0 none = 0 ∧ HT.sIx xs.length xs.length (some (-1)) = xs.length) := by
  have hl := List.length_pos_iff.mpr h
  have e : HT.sIx xs.length xs.length (some (-1)) = xs.length - 1 := by
    unfold HT.sIx
    simp
    try omega
  have e0 : HT.sIx xs.length 0 none = 0 := rfl
  refine ⟨?_, fun z => ?_⟩
  · unfold cutV
    rw [e, e0]
    simp
  · rw [e] at z
    omega
theorem rev_at {U : List Nat} {i : Nat} (h : i + 1 < U.length) : ((U.reverse).take (U.length - 1))[(U.length - 1) - 1 - i]? = some (U.getD (i + 1) 0) := by
  rw [List.getElem?_take_of_lt (by omega), List.getElem?_reverse (by omega), List.getD_eq_getElem?_getD, show U.length - 1 - (U.length - 1 - 1 - i) = i + 1 by omega, List.getElem?_eq_getElem h]
  rfl
def resSift (C : Addr) (H : Hp) (q : Addr) (r : List Int × List Nat × Nat) : Prop := SiftAt C H q r.1 (wz r.2.1) r.2.2
theorem goUp_stay {w f : Nat} {ks : List Int} {p : Nat} {way : List Nat} {lk : Nat} (h0 : p ≠ 0) (h : ¬ keyAt ks p < keyAt ks ((p - 1) / w)) : goUp w (f + 1) ks p way lk = (ks, way, lk + 1) := by
  rw [goUp, if_neg h0, if_neg h]
theorem goUp_go {w f : Nat} {ks : List Int} {p : Nat} {way : List Nat} {lk : Nat} (h0 : p ≠ 0) (h : keyAt ks p < keyAt ks ((p - 1) / w)) : goUp w (f + 1) ks p way lk = goUp w f (swp ks p ((p - 1) / w)) ((p - 1) / w) (way ++ [(p - 1) / w]) (lk + 1) := by
  rw [goUp, if_neg h0, if_pos h]
theorem goUp_root {w f : Nat} {ks : List Int} {way : List Nat} {lk : Nat} : goUp w f ks 0 way lk = (ks, way, lk) := by
  cases f with
  | zero => rfl
  | succ f => rw [goUp, if_pos rfl]
def spUp (C : Addr) : Sp := fun vs H Q _ => ∃ (r p w : Nat) (ks : List Int), vs = [.ref r, .int p, .int w] ∧ (1 ≤ w ∧ w ≤ 4) ∧ RowIn H r ks ∧ p < ks.length ∧
  ∀ (H' : Hp) (q : Addr), Same H H' → resSift C H' q (goUp w 20 ks p [p] 0) → Q (.ref q) H'
theorem ok_up (T : Tx K mg A) : FnOk P w K mg base CX0 7 A.f_sift_up A.d_sift_up ["row", "place", "arms"] (spUp A.CS) := by
  obtain ⟨mo, ko⟩ := kb_of T
  refine T.F_sift_up.ok sc_sift_up (fun vs H Q E h => ?_) (fun cdv B outer s H vs Q E hr h => ?_)
  · obtain ⟨r, p, w, ks, rfl, _⟩ := h
    rfl
  · obtain ⟨r, p, w, ks, rfl, hw, hrow, hp, q⟩ := h
    have nd := sc_sift_up.nd
    refine ⟨_, PSs.nox (pss_cons (ps_set (i := 3) nd rfl (Or.inl rfl) (pe_cmethK (pe_glob (v := .ref A.C) (by rfl) T.mC (relR _)) T.cr T.cof (ok_of T) hr ko pass0 (pa_cons (pv 0) pa_nil) (pk_cons (pv 2) pk_nil)))
      (pss_cons (ps_set (i := 4) nd rfl (Or.inl rfl) (pe_slice sl_tup (pe_meth (pv 3) T.cT T.M_t_way_to (ok_way T) (hr.mono (by decide)) (b_way T) .nil pass0 (pa_cons (pv 1) pa_nil)) po_none (po_some (pe_un un_neg pe_int))))
      (pss_cons (ps_set (i := 5) nd rfl (Or.inl rfl) (pe_callTy call_list_of (by rfl) T.g_list (by decide +kernel) (pa_cons (pv 0) pa_nil)))
      (pss_cons (ps_set (i := 6) nd rfl (Or.inl rfl) (pe_lst (pa_cons (pv 1) pa_nil)))
      (pss_cons (ps_set (i := 7) nd rfl (Or.inl rfl) pe_int)
      (C8.pss_cut (ps_for PassesOwn.never rfl (pi_reversed (by rfl) T.g_reversed (pa_cons (pe_callTy call_list_of (by rfl) T.g_list (by decide +kernel) (pa_cons (pv 4) pa_nil)) pa_nil)) (pg_name (i := 8) nd rfl (Or.inl rfl)) (pss_cons (ps_set (i := 9) nd rfl (Or.inl rfl) (pe_ix ix_list (pv 6) (pe_un un_neg pe_int) (fun _ _ => rfl)))
      (pss_cons (ps_aug (i := 7) nd rfl (Or.inl rfl) pe_int ip_add)
      (pss_cons (ps_if (pt_cmpR op_ge (pe_ix ix_list (pv 5) (pv 9) (fun _ _ => rfl)) (pe_ix ix_list (pv 5) (pv 8) (fun _ _ => rfl)) (nomark _)) (pss_one ps_break) pss_nil)
      (pss_cons (ps_asg (pe_tup (pa_cons (pe_ix ix_list (pv 5) (pv 8) (fun _ _ => rfl)) (pa_cons (pe_ix ix_list (pv 5) (pv 9) (fun _ _ => rfl)) pa_nil))) (pg_tup rfl (pgs_cons (pg_sub (pv 5) (pv 9) set_list) (pgs_cons (pg_sub (pv 5) (pv 8) set_list) pgs_nil))))
      (pss_one (ps_expr (pe_bm PySem.F.plainAttrs_list PySem.F.slot_list_append PySem.F.type_list_append mt_append (pv 6) (pa_cons (pv 8) pa_nil)))))))))
      (pss_one (ps_ret (pe_make T.mkCS (ok_zi T) (hr.mono (by decide)) (by rfl) T.mCS (b_zi T) .nil pass0 (pa_cons (pv 5) (pa_cons (pv 6) (pa_cons (pv 7) pa_nil)))))))))))), ?_⟩
    refine ⟨rfl, _, rfl, _, rfl, rfl, rfl, r, w, ks, rfl, hw, hrow.1, hrow.2.1, hrow.2.2, fun H1 tr s1 p0 t1 => ?_⟩
    obtain ⟨dx, l, h1, h2⟩ := t1.ob
    have noW : (tf ks.length w l).lookup ("way_to" : Str) = none := tf_no _ _ _ (by decide +kernel) (by decide +kernel) (by decide +kernel)
    have hk12 := hrow.2.1
    obtain ⟨u0, u1, u2, u3⟩ := up_ends w (by omega) p (by omega) hw.1
    have uc := up_chain w (by omega) p (by omega) hw.1
    have ul := up_len w (by omega) p (by omega) hw.1
    refine ⟨_, rfl, tr, dx, _, rfl, h1, noW, _, rfl, tr, ks.length, w, p, rfl, t1, hp, fun H2 t0 s2 n2 e2 => ?_⟩
    have ew : wayL w p = (upL w p).reverse := rfl
    have wl : (vi (wayL w p)).length = (upL w p).length := by rw [vi_len, ew, List.length_reverse]
    obtain ⟨c1, c2⟩ := cut_last (vi (wayL w p)) (List.length_pos_iff.mp (by rw [wl]; omega))
    refine ⟨_, rfl, _, rfl, t0, _, rfl, SqT.of e2, c2, fun ab nab => ?_⟩
    rw [c1, wl]
    have s3 : Same H2 (upd H2 ab (.tup ((vi (wayL w p)).take ((upL w p).length - 1)))) := Same.up nab
    have e3 : upd H2 ab (.tup ((vi (wayL w p)).take ((upL w p).length - 1))) ab = some (.tup ((vi (wayL w p)).take ((upL w p).length - 1))) := upd_same
    generalize upd H2 ab (.tup ((vi (wayL w p)).take ((upL w p).length - 1))) = H3 at s3 e3
    have s13 : Same H H3 := s1.trans (s2.trans s3)
    refine ⟨_, rfl, r, _, rfl, (hrow.1.same s13).len, fun D nD => ?_⟩
    refine ⟨_, rfl, by show 1 ≤ sizeLine; decide, fun W nW => ?_⟩
    have nDW : D ≠ W := ne_of_none (upd_same (H := H3) (a := D)) nW
    have two0 : Two H3 D W (ks.map V.int) (vi [p]) (upd (upd H3 D (.lst (ks.map V.int))) W (.lst [V.int (p : Nat)])) :=
      ⟨(Same.up nD).trans (Same.up nW), by rw [upd_ne nDW]; exact upd_same, upd_same, nD, (Same.up nD).free nW, nDW⟩
    generalize upd (upd H3 D (.lst (ks.map V.int))) W (.lst [V.int (p : Nat)]) = H4 at two0
    -- the loop
    refine ⟨fun σ' H' => ∃ (x8 x9 : Option V), σ' = [some (.ref r), some (.int p), some (.int w), some (.ref tr), some (.ref ab), some (.ref D), some (.ref W), some (.int ((goUp w 20 ks p [p] 0).2.2 : Nat)), x8, x9] ∧ Two H3 D W ((goUp w 20 ks p [p] 0).1.map V.int) (vi (goUp w 20 ks p [p] 0).2.1) H', ?_, ?_⟩
    · refine ⟨_, rfl, ab, _, rfl, .inr (SqT.of (two0.s _ _ e3)), fun c nc => ?_⟩
      have two1 := two0.same (Same.up (o := .lst ((vi (wayL w p)).take ((upL w p).length - 1))) nc)
      have ec : upd H4 c (.lst ((vi (wayL w p)).take ((upL w p).length - 1))) c = some (.lst ((vi (wayL w p)).take ((upL w p).length - 1))) := upd_same
      have nDc : D ≠ c := ne_of_none two0.d nc
      have nWc : W ≠ c := ne_of_none two0.w nc
      generalize upd H4 c (.lst ((vi (wayL w p)).take ((upL w p).length - 1))) = H5 at two1 ec
      have zl : ((vi (wayL w p)).take ((upL w p).length - 1)).length = (upL w p).length - 1 := by rw [List.length_take, wl]; omega
      refine ⟨c, _, rfl, SqL.of ec, RT.for_Itv (fun i σ' H' => ∃ (ks' : List Int) (way : List Nat) (lk : Nat) (x8 x9 : Option V), σ' = [some (.ref r), some (.int p), some (.int w), some (.ref tr), some (.ref ab), some (.ref D), some (.ref W), some (.int lk), x8, x9] ∧ Two H3 D W (ks'.map V.int) (vi (way ++ [(upL w p).getD i 0])) H' ∧
        H' c = some (.lst ((vi (wayL w p)).take ((upL w p).length - 1))) ∧ i ≤ (upL w p).length - 1 ∧ ks'.length = ks.length ∧ way.length = i ∧ goUp w 20 ks p [p] 0 = goUp w (20 - i) ks' ((upL w p).getD i 0) (way ++ [(upL w p).getD i 0]) lk) ?_ ?_ ?_ ?_⟩
      · exact ⟨ks, [], 0, none, none, rfl, by rw [u2]; exact two1, ec, by omega, rfl, rfl, by rw [u2]; rfl⟩
      · rintro i σ' H' ⟨_, _, _, _, _, _, _, h, _⟩
        exact SqL.of h
      · rintro i x σ' H' hi hx ⟨ks', way, lk, x8, x9, rfl, two, hc, hi2, hkl, hwl, eg⟩
        rw [zl] at hi hx
        obtain ⟨n0, np⟩ := uc i hi
        have hx2 : x = V.int (((upL w p).getD (i + 1) 0 : Nat) : Int) := by
          have e := rev_at (U := upL w p) (i := i) (by omega)
          rw [← ew] at e
          unfold vi at hx
          rw [← List.map_take, List.getElem?_map, e] at hx
          exact (Option.some.inj hx).symm
        subst hx2
        have b1 := u3 i (by omega)
        have b2 := u3 (i + 1) (by omega)
        have hc1 : (upL w p).getD i 0 < ks'.length := by omega
        have hc2 : (upL w p).getD (i + 1) 0 < ks'.length := by omega
        have hlast : atI (vi (way ++ [(upL w p).getD i 0])) (-1) = some (V.int (((upL w p).getD i 0 : Nat) : Int)) := by
          rw [vi_app]
          exact last_at
        have hlen14 : (way ++ [(upL w p).getD i 0]).length ≤ 900 := by rw [List.length_append, List.length_singleton]; omega
        have ef : 20 - i = (20 - (i + 1)) + 1 := by omega
        generalize (upL w p).getD i 0 = cur at *
        generalize (upL w p).getD (i + 1) 0 = nx at *
        rw [ef] at eg
        refine ⟨_, rfl, _, rfl, W, _, _, _, rfl, rfl, SqL.of two.w, hlast, ?_⟩
        refine ⟨_, rfl, _, _, rfl, rfl, ?_⟩
        refine ⟨_, rfl, _, rfl, D, _, _, _, rfl, rfl, SqL.of two.d, key_at hc1, _, rfl, _, rfl, D, _, _, _, rfl, rfl, SqL.of two.d, key_at hc2, _, _, rfl, rfl, _, rfl, ?_⟩
        by_cases hlt : keyAt ks' cur < keyAt ks' nx
        · rw [decide_eq_false (show ¬ keyAt ks' cur ≥ keyAt ks' nx by omega)]
          refine iteF ?_
          rw [goUp_go n0 (by rw [np]; exact hlt), np] at eg
          refine ⟨_, rfl, _, rfl, D, _, _, _, rfl, rfl, SqL.of two.d, key_at hc2, _, rfl, _, rfl, D, _, _, _, rfl, rfl, SqL.of two.d, key_at hc1, by show 2 ≤ sizeLine; decide, fun t ht => ?_⟩
          have ntc : c ≠ t := ne_of_none hc ht
          have two2 := two.same (Same.up (o := .tup [V.int (keyAt ks' nx), V.int (keyAt ks' cur)]) ht)
          have hc3 := (Same.up (o := .tup [V.int (keyAt ks' nx), V.int (keyAt ks' cur)]) ht) _ _ hc
          have et : upd H' t (.tup [V.int (keyAt ks' nx), V.int (keyAt ks' cur)]) t = some (.tup [V.int (keyAt ks' nx), V.int (keyAt ks' cur)]) := upd_same
          generalize upd H' t (.tup [V.int (keyAt ks' nx), V.int (keyAt ks' cur)]) = G at two2 hc3 et
          refine ⟨t, _, rfl, SqT.of et, rfl, _, _, rfl, _, rfl, _, rfl, D, _, _, cur, rfl, rfl, two2.d, ixN_nat (by rw [List.length_map]; exact hc1), ?_⟩
          rw [set_int]
          have two3 : Two H3 D W ((ks'.set cur (keyAt ks' nx)).map V.int) (vi (way ++ [cur])) (upd G D (.lst ((ks'.set cur (keyAt ks' nx)).map V.int))) := two2.setD
          have hc4 : upd G D (.lst ((ks'.set cur (keyAt ks' nx)).map V.int)) c = some (.lst ((vi (wayL w p)).take ((upL w p).length - 1))) := by rw [upd_ne nDc.symm]; exact hc3
          generalize upd G D (.lst ((ks'.set cur (keyAt ks' nx)).map V.int)) = G2 at two3 hc4
          refine ⟨_, _, rfl, _, rfl, _, rfl, D, _, _, nx, rfl, rfl, two3.d, ixN_nat (by rw [List.length_map, List.length_set]; exact hc2), ?_⟩
          rw [set_int, show (ks'.set cur (keyAt ks' nx)).set nx (keyAt ks' cur) = swp ks' cur nx from rfl]
          have two4 : Two H3 D W ((swp ks' cur nx).map V.int) (vi (way ++ [cur])) (upd G2 D (.lst ((swp ks' cur nx).map V.int))) := two3.setD
          have hc5 : upd G2 D (.lst ((swp ks' cur nx).map V.int)) c = some (.lst ((vi (wayL w p)).take ((upL w p).length - 1))) := by rw [upd_ne nDc.symm]; exact hc4
          generalize upd G2 D (.lst ((swp ks' cur nx).map V.int)) = G3 at two4 hc5
          refine ⟨rfl, _, rfl, .inl ⟨rfl, _, SqL.of two4.w⟩, _, rfl, W, _, _, rfl, rfl, two4.w, small1000 (by rw [vi_len]; omega), ?_⟩
          have em : vi (way ++ [cur]) ++ [V.int (nx : Nat)] = vi ((way ++ [cur]) ++ [nx]) := by rw [vi_app (way ++ [cur])]; rfl
          rw [em]
          refine ⟨swp ks' cur nx, way ++ [cur], lk + 1, _, _, rfl, two4.setW, by rw [upd_ne nWc.symm]; exact hc5, by omega, by rw [swp_len]; exact hkl, by rw [List.length_append, hwl]; rfl, eg⟩
        · rw [decide_eq_true (show keyAt ks' cur ≥ keyAt ks' nx by omega)]
          refine iteT ?_
          rw [goUp_stay n0 (by rw [np]; exact hlt)] at eg
          rw [eg]
          exact ⟨_, _, rfl, two⟩
      · rintro σ' H' ⟨ks', way, lk, x8, x9, rfl, two, hc, hi2, hkl, hwl, eg⟩
        rw [zl, u0, goUp_root] at eg
        rw [zl, u0] at two
        rw [eg]
        exact ⟨x8, x9, rfl, two⟩
    · rintro σ' H' ⟨x8, x9, rfl, two⟩
      refine ⟨_, rfl, _, rfl, _, rfl, fun x dx2 nx ndx nex => ?_⟩
      have hD := (Same.up (o := .own x) ndx) _ _ two.d
      have hW := (Same.up (o := .own x) ndx) _ _ two.w
      have nx2 : upd H' dx2 (.own x) x = none := by rw [upd_ne nex.symm]; exact nx
      refine ⟨x, dx2, D, W, _, (goUp w 20 ks p [p] 0).1, wz (goUp w 20 ks p [p] 0).2.1, rfl, upd_same, .inl ((Same.up nx2) _ _ hD), .inl (by rw [← vi_wz]; exact (Same.up nx2) _ _ hW), fun H6 k6 st => ⟨rfl, q H6 x ?_ st⟩⟩
      exact s13.trans (two.s.trans (new_same nx ndx k6))
theorem kb_up (T : Tx K mg A) : ∃ mv : List Value, KBn K A.d_sift_up ["row", "place", "arms"] 2 ["arms"] (fun us ws => us ++ (mv ++ ws)) (fun vs zs => vs ++ zs) := by
  obtain ⟨mv, h⟩ := T.F_sift_up.kbinds0 (ps := ["row", "place", "arms"]) 2 ["arms"] [] (fun us mv ws => us ++ (mv ++ ws)) (by simp) (by simp) (fun r1 r2 r3 => r1.append (r2.append r3))
    (fun D doc pm an cdv ct us mv ws h1 h2 h3 => by
      match us, mv, ws, h1, h2, h3 with
      | [a, b], [], [c], _, _, _ => rfl)
  exact ⟨mv, h⟩
theorem bd_up (T : Tx K mg A) : ∃ ds, Vals [V.int 2] ds ∧ L2.Binds K A.d_sift_up ["row", "place", "arms"] ds := by
  refine T.F_sift_up.binds0 2 (by simp) rfl (fun D doc pm an cdv ct us ks h1 h2 => ?_)
  match us, ks, h1, h2 with
  | [a, b], [c], _, _ => exact ⟨_, _, _, _, _, _, rfl, rfl, rfl⟩

end
end Tw

set_option Elab.async false
set_option linter.all false
set_option maxRecDepth 100000
set_option maxHeartbeats 2000000
namespace Tw
open PySem PySem.Spec PyProof.Rows L2
section
variable {P : Program} {w : World} {K : PySem.W.Frag} {mg : Str → Option Value} {base : Heap} {A : Ad}
/-! going down -/
open LamX (ExtN Tabs TabS)
theorem extN_of {H H' : Hp} (s : Same H H') : ExtN H H' := fun b o e _ => s b o e
theorem tabs_upd {T : List (Addr × Str)} {H : Hp} {D : Addr} {xs : List V} {o : HO} (t : Tabs T H) (h : H D = some (.lst xs)) : Tabs T (upd H D o) := fun p hp => by
  obtain ⟨ps, h1, h2, h3⟩ := t p hp
  refine ⟨ps, by rw [upd_ne (ne_of h1 h (by intro z; cases z))]; exact h1, h2, fun pos cv hc => ?_⟩
  obtain ⟨c, e1, e2⟩ := h3 pos cv hc
  exact ⟨c, e1, by rw [upd_ne (ne_of e2 h (by intro z; unfold LamX.CodeO at z; cases z))]; exact e2⟩
/-- two lists of one's own, where code may be made -/
structure TwoE (T : List (Addr × Str)) (H : Hp) (D W : Addr) (xs ys : List V) (H' : Hp) : Prop where
  e : ExtN H H'
  t : Tabs T H'
  d : H' D = some (.lst xs)
  w : H' W = some (.lst ys)
  nD : H D = Option.none
  nW : H W = Option.none
  ne : D ≠ W
section
variable {T : List (Addr × Str)} {H H' H2 : Hp} {D W : Addr} {xs ys zs : List V}
theorem TwoE.setD (h : TwoE T H D W xs ys H') : TwoE T H D W zs ys (upd H' D (.lst zs)) :=
  ⟨fun b o e n => by rw [upd_ne (ne_of_none e h.nD)]; exact h.e _ _ e n, tabs_upd h.t h.d, upd_same, by rw [upd_ne h.ne.symm]; exact h.w, h.nD, h.nW, h.ne⟩
theorem TwoE.setW (h : TwoE T H D W xs ys H') : TwoE T H D W xs zs (upd H' W (.lst zs)) :=
  ⟨fun b o e n => by rw [upd_ne (ne_of_none e h.nW)]; exact h.e _ _ e n, tabs_upd h.t h.w, by rw [upd_ne h.ne]; exact h.d, upd_same, h.nD, h.nW, h.ne⟩
theorem TwoE.same (h : TwoE T H D W xs ys H') (s : Same H' H2) : TwoE T H D W xs ys H2 := ⟨h.e.trans (extN_of s), h.t.ext s, s _ _ h.d, s _ _ h.w, h.nD, h.nW, h.ne⟩
theorem TwoE.ext (h : TwoE T H D W xs ys H') (e : ExtN H' H2) (t : Tabs T H2) : TwoE T H D W xs ys H2 := ⟨h.e.trans e, t, e _ _ h.d (fun ps z => nomatch z), e _ _ h.w (fun ps z => nomatch z), h.nD, h.nW, h.ne⟩
end
theorem TreeAt.ext {C : Addr} {H H' : Hp} {p n w : Nat} (h : TreeAt C H p n w) (e : ExtN H H') : TreeAt C H' p n w :=
  ⟨let ⟨dx, t, a, b⟩ := h.ob; ⟨dx, t, e _ _ a (fun ps z => nomatch z), e _ _ b (fun ps z => nomatch z)⟩, h.hn, h.hw⟩
theorem Sq.ext {H H' : Hp} {a : Addr} {xs : List V} (h : Sq H a xs) (e : ExtN H H') : Sq H' a xs := h.elim (fun x => .inl (e _ _ x (fun ps z => nomatch z))) fun x => .inr (e _ _ x (fun ps z => nomatch z))
theorem RowIn.ext {H H' : Hp} {a : Addr} {ns : List Int} (h : RowIn H a ns) (e : ExtN H H') : RowIn H' a ns := ⟨h.1.ext e, h.2⟩
theorem wz_get (l : List Nat) (i : Nat) : (wz l).getD i 0 = ((l.getD i 0 : Nat) : Int) := by
  unfold wz
  rw [List.getD_eq_getElem?_getD, List.getD_eq_getElem?_getD, List.getElem?_map]
  cases l[i]? <;> rfl
theorem least_wz {ks : List Int} {l : List Nat} {m : Int} (h : Cl.LeastAt ks (wz l) m) : m = ((leastC ks l : Nat) : Int) := by
  obtain ⟨j, fl, e⟩ := h
  rw [wz_get] at e
  have hl : (wz l).length = l.length := by unfold wz; rw [List.length_map]
  have ef : (fun i => ks.getD ((wz l).getD i 0).toNat 0) = fun i => keyAt ks (l.getD i 0) := by
    funext i
    rw [wz_get, Int.toNat_natCast]
    rfl
  rw [hl, ef] at fl
  rw [e, least_of fl]
theorem goDown_leaf {n w f : Nat} {ks : List Int} {p : Nat} {way : List Nat} {lk : Nat} (h : kidL n w p = []) : goDown n w f ks p way lk = (ks, way, lk) := by
  cases f with
  | zero => rfl
  | succ f => rw [goDown, if_pos h]
theorem goDown_stay {n w f : Nat} {ks : List Int} {p : Nat} {way : List Nat} {lk : Nat} (h0 : kidL n w p ≠ []) (h : ¬ keyAt ks (leastC ks (kidL n w p)) < keyAt ks p) : goDown n w (f + 1) ks p way lk = (ks, way, lk + (kidL n w p).length) := by
  rw [goDown, if_neg h0, if_neg h]
theorem goDown_go {n w f : Nat} {ks : List Int} {p b : Nat} {way : List Nat} {lk : Nat} (h0 : kidL n w p ≠ []) (eb : leastC ks (kidL n w p) = b) (h : keyAt ks b < keyAt ks p) :
    goDown n w (f + 1) ks p way lk = goDown n w f (swp ks p b) b (way ++ [b]) (lk + (kidL n w p).length) := by
  rw [goDown, if_neg h0, eb, if_pos h]
def muW (σ : L2.St) (H : Hp) : Nat := match σ[6]? with
  | some (some (V.ref W)) => (match H W with | some (.lst xs) => 40 - xs.length | _ => 0)
  | _ => 0
theorem muW_at {σ : L2.St} {H : Hp} {W : Addr} {xs : List V} (h : σ[6]? = some (some (V.ref W))) (hw : H W = some (.lst xs)) : muW σ H = 40 - xs.length := by
  unfold muW
  rw [h]
  show (match H W with | some (.lst xs) => 40 - xs.length | _ => 0) = _
  rw [hw]
def spDown (A : Ad) : Sp := fun vs H Q _ => ∃ (r p w : Nat) (ks : List Int), vs = [.ref r, .int p, .int w] ∧ (1 ≤ w ∧ w ≤ 4) ∧ RowIn H r ks ∧ p < ks.length ∧ Tabs (TT A) H ∧
  ∀ (H' : Hp) (q : Addr), ExtN H H' → Tabs (TT A) H' → resSift A.CS H' q (goDown ks.length w 20 ks p [p] 0) → Q (.ref q) H'
theorem ok_down (T : Tx K mg A) (TB : LamX.TabB base mg A.c_least_child A.P_least_child) : FnOk P w K mg base CX0 7 A.f_sift_down A.d_sift_down ["row", "place", "arms"] (spDown A) := by
  obtain ⟨mo, ko⟩ := kb_of T
  refine T.F_sift_down.ok sc_sift_down (fun vs H Q E h => ?_) (fun cdv B outer s H vs Q E hr h => ?_)
  · obtain ⟨r, p, w, ks, rfl, _⟩ := h
    rfl
  · obtain ⟨r, p, w, ks, rfl, hw, hrow, hp, hT, q⟩ := h
    have nd := sc_sift_down.nd
    refine ⟨_, PSs.nox (pss_cons (ps_set (i := 3) nd rfl (Or.inl rfl) (pe_cmethK (pe_glob (v := .ref A.C) (by rfl) T.mC (relR _)) T.cr T.cof (ok_of T) hr ko pass0 (pa_cons (pv 0) pa_nil) (pk_cons (pv 2) pk_nil)))
      (pss_cons (ps_set (i := 4) nd rfl (Or.inl rfl) (pe_gi T.D_t___getitem__ (ok_gi T) (hr.mono (by decide)) (b_gi T) pass0 (pv 3) (pv 1)))
      (pss_cons (ps_set (i := 5) nd rfl (Or.inl rfl) (pe_callTy call_list_of (by rfl) T.g_list (by decide +kernel) (pa_cons (pv 0) pa_nil)))
      (pss_cons (ps_set (i := 6) nd rfl (Or.inl rfl) (pe_lst (pa_cons (pv 1) pa_nil)))
      (pss_cons (ps_set (i := 7) nd rfl (Or.inl rfl) pe_int)
      (C8.pss_cut (ps_while PassesOwn.never (pt_truth (pv 4) (fun _ => rfl)) (pss_cons (ps_set (i := 8) nd rfl (Or.inl rfl) (pe_ix ix_list (pv 6) (pe_un un_neg pe_int) (fun _ _ => rfl)))
      (pss_cons (ps_aug (i := 7) nd rfl (Or.inl rfl) (pe_callB call_len_seq (by rfl) T.g_len PySem.boot_len (pa_cons (pv 4) pa_nil)) ip_add)
      (pss_cons (ps_set (i := 9) nd rfl (Or.inl rfl) (pe_call (ok_lc T TB) (hr.mono (by decide)) (by rfl) T.m_least_child T.F_least_child.kp (b_lc T) .nil pass0 (pa_cons (pv 5) (pa_cons (pv 4) pa_nil))))
      (pss_cons (ps_if (pt_cmpR op_le (pe_ix ix_list (pv 5) (pv 8) (fun _ _ => rfl)) (pe_ix ix_list (pv 5) (pv 9) (fun _ _ => rfl)) (nomark _)) (pss_one ps_break) pss_nil)
      (pss_cons (ps_asg (pe_tup (pa_cons (pe_ix ix_list (pv 5) (pv 9) (fun _ _ => rfl)) (pa_cons (pe_ix ix_list (pv 5) (pv 8) (fun _ _ => rfl)) pa_nil))) (pg_tup rfl (pgs_cons (pg_sub (pv 5) (pv 8) set_list) (pgs_cons (pg_sub (pv 5) (pv 9) set_list) pgs_nil))))
      (pss_cons (ps_expr (pe_bm PySem.F.plainAttrs_list PySem.F.slot_list_append PySem.F.type_list_append mt_append (pv 6) (pa_cons (pv 9) pa_nil)))
      (pss_one (ps_set (i := 4) nd rfl (Or.inl rfl) (pe_gi T.D_t___getitem__ (ok_gi T) (hr.mono (by decide)) (b_gi T) pass0 (pv 3) (pv 9)))))))))))
      (pss_one (ps_ret (pe_make T.mkCS (ok_zi T) (hr.mono (by decide)) (by rfl) T.mCS (b_zi T) .nil pass0 (pa_cons (pv 5) (pa_cons (pv 6) (pa_cons (pv 7) pa_nil)))))))))))), ?_⟩
    refine ⟨rfl, _, rfl, _, rfl, rfl, rfl, r, w, ks, rfl, hw, hrow.1, hrow.2.1, hrow.2.2, fun H1 tr s1 p0 t1 => ?_⟩
    obtain ⟨dx, l, h1, h2⟩ := t1.ob
    have hk12 := hrow.2.1
    refine ⟨_, rfl, _, rfl, tr, dx, _, rfl, h1, tr, ks.length, w, p, rfl, t1, hp, fun H2 ch s2 hch => ?_⟩
    rw [kids_eq, kids_same ks.length (by omega) w (by omega) p hp hw.1] at hch
    have s12 : Same H H2 := s1.trans s2
    refine ⟨_, rfl, r, _, rfl, (hrow.1.same s12).len, fun D nD => ?_⟩
    refine ⟨_, rfl, by show 1 ≤ sizeLine; decide, fun W nW => ?_⟩
    have nDW : D ≠ W := ne_of_none (upd_same (H := H2) (a := D)) nW
    have s24 : Same H2 (upd (upd H2 D (.lst (ks.map V.int))) W (.lst [V.int (p : Nat)])) := (Same.up nD).trans (Same.up nW)
    have two0 : TwoE (TT A) H2 D W (ks.map V.int) (vi ([] ++ [p])) (upd (upd H2 D (.lst (ks.map V.int))) W (.lst [V.int (p : Nat)])) :=
      ⟨extN_of s24, (hT.ext s12).ext s24, by rw [upd_ne nDW]; exact upd_same, upd_same, nD, (Same.up nD).free nW, nDW⟩
    have hch4 := s24 _ _ hch
    generalize upd (upd H2 D (.lst (ks.map V.int))) W (.lst [V.int (p : Nat)]) = H4 at two0 hch4
    have t2 := t1.same s2
    generalize en : ks.length = n at *
    refine ⟨fun σ' H' => ∃ (x4 x8 x9 : Option V), σ' = [some (.ref r), some (.int p), some (.int w), some (.ref tr), x4, some (.ref D), some (.ref W), some (.int ((goDown n w 20 ks p [p] 0).2.2 : Nat)), x8, x9] ∧ TwoE (TT A) H2 D W ((goDown n w 20 ks p [p] 0).1.map V.int) (vi (goDown n w 20 ks p [p] 0).2.1) H', ?_, ?_⟩
    · refine while_by (fun σ' H' => ∃ (f : Nat) (ks' : List Int) (cur : Nat) (way : List Nat) (lk : Nat) (x8 x9 : Option V) (ch : Addr), σ' = [some (.ref r), some (.int p), some (.int w), some (.ref tr), some (.ref ch), some (.ref D), some (.ref W), some (.int lk), x8, x9] ∧
        TwoE (TT A) H2 D W (ks'.map V.int) (vi (way ++ [cur])) H' ∧ H' ch = some (.tup (vi (kidL n w cur))) ∧ cur < n ∧ ks'.length = n ∧ way.length + f = 20 ∧ n - cur < f ∧ goDown n w 20 ks p [p] 0 = goDown n w f ks' cur (way ++ [cur]) lk) muW ?_ ?_ ?_
      · exact ⟨20, ks, p, [], 0, none, none, ch, rfl, two0, hch4, hp, en, rfl, by omega, rfl⟩
      · rintro σ' H' ⟨f, ks', cur, way, lk, x8, x9, ch', rfl, two, hch', hcur, hkl, hwf, hf, eg⟩
        refine ⟨_, rfl, !(vi (kidL n w cur)).isEmpty, .inr (.inl ⟨_, SqT.of hch', rfl⟩), ?_⟩
        obtain ⟨f, rfl⟩ : ∃ f', f = f' + 1 := ⟨f - 1, by omega⟩
        have hlast : atI (vi (way ++ [cur])) (-1) = some (V.int ((cur : Nat) : Int)) := by
          rw [vi_app]
          exact last_at
        have hmu0 : muW [some (.ref r), some (.int p), some (.int w), some (.ref tr), some (.ref ch'), some (.ref D), some (.ref W), some (.int lk), x8, x9] H' = 40 - (way.length + 1) := by
          rw [muW_at rfl two.w, vi_len, List.length_append]
          rfl
        by_cases hk0 : kidL n w cur = []
        · rw [hk0]
          refine iteF ?_
          rw [goDown_leaf hk0] at eg
          rw [eg]
          exact ⟨_, _, _, rfl, two⟩
        · have e0 : (!(vi (kidL n w cur)).isEmpty) = true := by
            cases e : kidL n w cur with
            | nil => exact absurd e hk0
            | cons a b => rfl
          rw [e0]
          refine iteT ?_
          have hmem := least_mem (ks := ks') hk0
          have hk4 := kid_len n (by omega) w (by omega) cur hcur hw.1
          obtain ⟨hb1, hb2⟩ := kid_in hw.1 hmem
          refine ⟨_, rfl, _, rfl, W, _, _, _, rfl, rfl, SqL.of two.w, hlast, ?_⟩
          refine ⟨_, rfl, _, rfl, ch', _, rfl, .inr (SqT.of hch'), _, _, rfl, rfl, ?_⟩
          refine ⟨_, rfl, _, rfl, D, ch', ks', wz (kidL n w cur), rfl, SqL.of two.d, by rw [← vi_wz]; exact SqT.of hch', ?_, ?_, two.t, fun m H5 e5 t5 hm => ?_⟩
          · unfold wz
            rw [List.length_map]
            exact List.length_pos_iff.mpr hk0
          · intro z hz
            unfold wz at hz
            obtain ⟨j, hj, rfl⟩ := List.mem_map.mp hz
            have := kid_in hw.1 hj
            omega
          have em := least_wz hm
          subst em
          generalize ebb : leastC ks' (kidL n w cur) = b at *
          have two5 := two.ext e5 t5
          have hch5 := e5 _ _ hch' (fun ps z => nomatch z)
          have hc1 : cur < ks'.length := by omega
          have hc2 : b < ks'.length := by omega
          rw [vi_len]
          refine ⟨_, rfl, _, rfl, D, _, _, _, rfl, rfl, SqL.of two5.d, key_at hc1, _, rfl, _, rfl, D, _, _, _, rfl, rfl, SqL.of two5.d, key_at hc2, _, _, rfl, rfl, _, rfl, ?_⟩
          by_cases hlt : keyAt ks' b < keyAt ks' cur
          · rw [decide_eq_false (show ¬ keyAt ks' cur ≤ keyAt ks' b by omega)]
            refine iteF ?_
            rw [goDown_go hk0 ebb hlt] at eg
            refine ⟨_, rfl, _, rfl, D, _, _, _, rfl, rfl, SqL.of two5.d, key_at hc2, _, rfl, _, rfl, D, _, _, _, rfl, rfl, SqL.of two5.d, key_at hc1, by show 2 ≤ sizeLine; decide, fun t ht => ?_⟩
            have two2 := two5.same (Same.up (o := .tup [V.int (keyAt ks' b), V.int (keyAt ks' cur)]) ht)
            have et : upd H5 t (.tup [V.int (keyAt ks' b), V.int (keyAt ks' cur)]) t = some (.tup [V.int (keyAt ks' b), V.int (keyAt ks' cur)]) := upd_same
            generalize upd H5 t (.tup [V.int (keyAt ks' b), V.int (keyAt ks' cur)]) = G at two2 et
            refine ⟨t, _, rfl, SqT.of et, rfl, _, _, rfl, _, rfl, _, rfl, D, _, _, cur, rfl, rfl, two2.d, ixN_nat (by rw [List.length_map]; exact hc1), ?_⟩
            rw [set_int]
            have two3 : TwoE (TT A) H2 D W ((ks'.set cur (keyAt ks' b)).map V.int) (vi (way ++ [cur])) (upd G D (.lst ((ks'.set cur (keyAt ks' b)).map V.int))) := two2.setD
            generalize upd G D (.lst ((ks'.set cur (keyAt ks' b)).map V.int)) = G2 at two3
            refine ⟨_, _, rfl, _, rfl, _, rfl, D, _, _, b, rfl, rfl, two3.d, ixN_nat (by rw [List.length_map, List.length_set]; exact hc2), ?_⟩
            rw [set_int, show (ks'.set cur (keyAt ks' b)).set b (keyAt ks' cur) = swp ks' cur b from rfl]
            have two4 : TwoE (TT A) H2 D W ((swp ks' cur b).map V.int) (vi (way ++ [cur])) (upd G2 D (.lst ((swp ks' cur b).map V.int))) := two3.setD
            generalize upd G2 D (.lst ((swp ks' cur b).map V.int)) = G3 at two4
            refine ⟨rfl, _, rfl, .inl ⟨rfl, _, SqL.of two4.w⟩, _, rfl, W, _, _, rfl, rfl, two4.w, small1000 (by rw [vi_len, List.length_append, List.length_singleton]; omega), ?_⟩
            have em : vi (way ++ [cur]) ++ [V.int (b : Nat)] = vi ((way ++ [cur]) ++ [b]) := by rw [vi_app (way ++ [cur])]; rfl
            rw [em]
            have two6 : TwoE (TT A) H2 D W ((swp ks' cur b).map V.int) (vi ((way ++ [cur]) ++ [b])) (upd G3 W (.lst (vi ((way ++ [cur]) ++ [b])))) := two4.setW
            generalize upd G3 W (.lst (vi ((way ++ [cur]) ++ [b]))) = G4 at two6
            have t6 := t2.ext two6.e
            obtain ⟨dx6, l6, h16, h26⟩ := t6.ob
            refine ⟨_, rfl, _, rfl, tr, dx6, _, rfl, h16, tr, n, w, b, rfl, t6, hb2, fun H7 ch7 s7 hch7 => ?_⟩
            rw [kids_eq, kids_same n (by omega) w (by omega) b hb2 hw.1] at hch7
            have two7 := two6.same s7
            refine ⟨⟨f, swp ks' cur b, b, way ++ [cur], _, _, _, ch7, rfl, two7, hch7, hb2, by rw [swp_len]; exact hkl, by rw [List.length_append, List.length_singleton]; omega, by omega, eg⟩, ?_⟩
            rw [hmu0]
            show muW [some (.ref r), some (.int p), some (.int w), some (.ref tr), some (.ref ch7), some (.ref D), some (.ref W), _, _, _] H7 < _
            rw [muW_at rfl two7.w, vi_len, List.length_append, List.length_append, List.length_singleton, List.length_singleton]
            omega
          · rw [decide_eq_true (show keyAt ks' cur ≤ keyAt ks' b by omega)]
            refine iteT ?_
            rw [goDown_stay hk0 (by rw [ebb]; exact hlt)] at eg
            rw [eg]
            exact ⟨_, _, _, rfl, two5⟩
      · rintro σ' H1 Q1 Q2 mono ⟨v, hv, k, tv, z⟩
        exact ⟨v, hv, k, tv, mono _ _ z⟩
    · rintro σ' H' ⟨x4, x8, x9, rfl, two⟩
      refine ⟨_, rfl, _, rfl, _, rfl, fun x dx2 nx ndx nex => ?_⟩
      have hD := (Same.up (o := .own x) ndx) _ _ two.d
      have hW := (Same.up (o := .own x) ndx) _ _ two.w
      have nx2 : upd H' dx2 (.own x) x = none := by rw [upd_ne nex.symm]; exact nx
      refine ⟨x, dx2, D, W, _, (goDown n w 20 ks p [p] 0).1, wz (goDown n w 20 ks p [p] 0).2.1, rfl, upd_same, .inl ((Same.up nx2) _ _ hD), .inl (by rw [← vi_wz]; exact (Same.up nx2) _ _ hW), fun H6 k6 st => ⟨rfl, q H6 x ?_ ?_ st⟩⟩
      · exact (extN_of s12).trans (two.e.trans (extN_of (new_same nx ndx k6)))
      · exact two.t.ext (new_same nx ndx k6)
theorem kb_down (T : Tx K mg A) : ∃ mv : List Value, KBn K A.d_sift_down ["row", "place", "arms"] 2 ["arms"] (fun us ws => us ++ (mv ++ ws)) (fun vs zs => vs ++ zs) := by
  obtain ⟨mv, h⟩ := T.F_sift_down.kbinds0 (ps := ["row", "place", "arms"]) 2 ["arms"] [] (fun us mv ws => us ++ (mv ++ ws)) (by simp) (by simp) (fun r1 r2 r3 => r1.append (r2.append r3))
    (fun D doc pm an cdv ct us mv ws h1 h2 h3 => by
      match us, mv, ws, h1, h2, h3 with
      | [a, b], [], [c], _, _, _ => rfl)
  exact ⟨mv, h⟩
theorem bd_down (T : Tx K mg A) : ∃ ds, Vals [V.int 2] ds ∧ L2.Binds K A.d_sift_down ["row", "place", "arms"] ds := by
  refine T.F_sift_down.binds0 2 (by simp) rfl (fun D doc pm an cdv ct us ks h1 h2 => ?_)
  match us, ks, h1, h2 with
  | [a, b], [c], _, _ => exact ⟨_, _, _, _, _, _, rfl, rfl, rfl⟩

end
end Tw

set_option Elab.async false
set_option linter.all false
set_option maxRecDepth 100000
set_option maxHeartbeats 2000000
namespace Tw
open PySem PySem.Spec PyProof.Rows L2
section
variable {P : Program} {w : World} {K : PySem.W.Frag} {mg : Str → Option Value} {base : Heap} {A : Ad}
open LamX (ExtN Tabs TabS)
theorem tabs_but {T : List (Addr × Str)} {H H' : Hp} {d : Addr} {xs : List V} (t : Tabs T H) (h : H d = some (.lst xs)) (b : But d H H') : Tabs T H' := fun p hp => by
  obtain ⟨ps, h1, h2, h3⟩ := t p hp
  refine ⟨ps, b _ _ (ne_of h1 h (by intro z; cases z)) h1, h2, fun pos cv hc => ?_⟩
  obtain ⟨c, e1, e2⟩ := h3 pos cv hc
  exact ⟨c, e1, b _ _ (ne_of e2 h (by intro z; unfold LamX.CodeO at z; cases z)) e2⟩
theorem DrAt.ext {K : PySem.W.Frag} {H H' : Hp} {d a : Addr} {ns : List Int} {k : Nat} (h : DrAt K H d a ns k) (e : ExtN H H') : DrAt K H' d a ns k := ⟨e _ _ h.l (fun ps z => nomatch z), h.n, e.sqL h.s, h.h⟩
theorem zq_of {C : Addr} {H : Hp} {p p2 lk lk2 : Nat} {ks ws ks2 ws2 : List Int} {Q : VK} {E : XK} {b : Bool} (h1 : SiftAt C H p ks ws lk) (h2 : SiftAt C H p2 ks2 ws2 lk2) (hb : decide (ks = ks2 ∧ ws = ws2 ∧ lk = lk2) = b) (q : Q (.bl b) H) : spZq C [.ref p, .ref p2] H Q E :=
  ⟨p, lk, ks, ws, .ref p2, rfl, h1, .inl ⟨p2, lk2, ks2, ws2, rfl, h2, by rw [hb]; exact q⟩⟩
theorem sift_ins {C : Addr} {H : Hp} {p lk : Nat} {ks ws : List Int} (h : SiftAt C H p ks ws lk) : ∃ dx fs, H p = some (.ins C dx fs) := let ⟨dx, t1, t2, a, _, _⟩ := h; ⟨dx, _, a⟩
theorem new_up {C x dx : Addr} {H : Hp} (nx : H x = none) (ndx : H dx = none) (nex : dx ≠ x) : Same H (upd (upd H dx (.own x)) x (.ins C dx [])) :=
  (Same.up ndx).trans (Same.up (by rw [upd_ne nex.symm]; exact nx))
theorem app_ne {α : Type} {l : List α} {x : α} : ¬ l ++ [x] = l := fun h => by
  have := congrArg List.length h
  rw [List.length_append, List.length_singleton] at this
  omega
theorem map_one (l : List Int) (x : Int) : l.map V.int ++ [V.int x] = (l ++ [x]).map V.int := by rw [List.map_append]; rfl
theorem b_iter' (T : Tx K mg A) : L2.Binds K A.d_t___iter__ ["self"] [] := b_iter T
theorem ix_sq {H : Hp} {a : Addr} {ns : List Int} {i : Nat} {Q : VK} (h : Sq H a (ns.map V.int)) (hi : i < ns.length) (q : Q (.int (ns.getD i 0)) H) : rIx K (.ref a) (.int i) H Q := by
  have e : (ns.map V.int)[i]? = some (V.int (ns.getD i 0)) := by
    rw [List.getElem?_map, List.getElem?_eq_getElem hi, List.getD_eq_getElem?_getD, List.getElem?_eq_getElem hi]
    rfl
  rcases h with h | h
  · exact .inl ⟨a, _, _, _, rfl, rfl, SqL.of h, atI_nat e, q⟩
  · exact .inr (.inl ⟨a, _, _, _, rfl, rfl, SqT.of h, atI_nat e, q⟩)
/-- the faults of a row -/
def faultB (ns : List Int) (w p : Nat) : Bool := decide (0 < p) && decide (ns.getD p 0 < ns.getD ((p - 1) / w) 0)
def faultL (ns : List Int) (w : Nat) : List Nat := (List.range ns.length).filter (faultB ns w)
theorem filt_pick (l : List Nat) (b : Nat → Bool) : vi (l.filter b) = l.filterMap fun j => if b j = true then some (V.int (j : Nat)) else none := by
  unfold vi
  induction l with
  | nil => rfl
  | cons a l ih =>
    by_cases h : b a = true
    · rw [List.filter_cons_of_pos h, List.map_cons, ih, List.filterMap_cons, if_pos h]
    · rw [List.filter_cons_of_neg h, ih, List.filterMap_cons, if_neg h]
def spFau : Sp := fun vs H Q _ => ∃ (a w : Nat) (ns : List Int), vs = [.ref a, .int w] ∧ (1 ≤ w ∧ w ≤ 4) ∧ RowIn H a ns ∧ ∀ H' q, Same H H' → H q = none → H' q = some (.lst (vi (faultL ns w))) → Q (.ref q) H'
theorem ok_fau (T : Tx K mg A) : FnOk P w K mg base CX0 7 A.f_faults A.d_faults ["row", "arms"] spFau := by
  obtain ⟨mo, ko⟩ := kb_of T
  refine T.F_faults.ok sc_faults (fun vs H Q E h => ?_) (fun cdv B outer s H vs Q E hr h => ?_)
  · obtain ⟨a, w, ns, rfl, _⟩ := h
    rfl
  · obtain ⟨a, w, ns, rfl, hw, hrow, q⟩ := h
    have nd := sc_faults.nd
    refine ⟨_, PSs.nox (pss_cons (ps_set (i := 2) nd rfl (Or.inr rfl) (pe_cmethK (pe_glob (v := .ref A.C) (by rfl) T.mC (relR _)) T.cr T.cof (ok_of T) hr ko pass0 (pa_cons (pv 0) pa_nil) (pk_cons (pv 1) pk_nil)))
      (pss_one (ps_ret (pe_lc (own := [("place", 3)]) (g := gName 3) rfl nd (pi_own T.D_t___iter__ (ok_iter T) (hr.mono (by decide)) (b_iter T) (pv 2)) (blkOk_by (own := [("place", 3)]) (N := ["row", "arms", "tree", "place"]) (sc := defScope s_faults) (by decide +kernel))
        (fun _ _ _ _ _ => pg_name (i := 3) nd rfl (Or.inl rfl))
        (fun _ _ _ _ _ => pts_one (PW.pt (pw_and (pt_cmpR op_gt (pv 3) pe_int (nomark _)) (pw_and1 (pt_cmpR op_lt (pe_ix (r := rIx K) ix_seq (pv 0) (pv 3) (fun _ _ => rfl))
          (pe_ix (r := rIx K) ix_seq (pv 0) (pe_meth (pv 2) T.cT T.M_t_parent (ok_par T) (hr.mono (by decide)) (b_par T) .nil pass0 (pa_cons (pv 3) pa_nil)) (fun _ _ => rfl)) (nomark _))))))
        (fun _ _ _ _ _ => pv 3))))), ?_⟩
    refine ⟨rfl, _, rfl, _, rfl, rfl, rfl, a, w, ns, rfl, hw, hrow.1, hrow.2.1, hrow.2.2, fun H1 p s1 p0 t1 => ?_⟩
    obtain ⟨dx, l, h1, h2⟩ := t1.ob
    have noP : (tf ns.length w l).lookup ("parent" : Str) = none := tf_no _ _ _ (by decide +kernel) (by decide +kernel) (by decide +kernel)
    have hlen := hrow.2.1
    refine ⟨_, rfl, p, dx, _, l, _, rfl, h1, tf_pl _ _ _, SqT.of h2, fun D hD => ?_⟩
    refine lc_it (walk_tup (xs := pl ns.length)) (PickI H1 D (List.range ns.length) fun j => if faultB ns w j = true then some (V.int (j : Nat)) else none) (pick_start hD) (fun k H' _ h => SqT.of (h.s _ _ h2)) ?_ ?_
    · rintro k x H2 H3 hk pk ⟨rfl, ex⟩
      obtain ⟨hk', rfl⟩ := map_at ex
      rw [List.getElem_range]
      have hk2 : k < ns.length := by rw [List.length_range] at hk'; exact hk'
      have hrow3 := (hrow.1.same s1).same pk.s
      refine ⟨rfl, _, rfl, _, _, rfl, rfl, _, rfl, ?_⟩
      by_cases h0 : 0 < k
      · rw [decide_eq_true (show (0 : Int) < (k : Nat) by omega)]
        have ep : parV w k = V.int ((k - 1) / w : Nat) := by unfold parV; rw [if_neg (by omega)]
        have hlt : (k - 1) / w < k := Nat.lt_of_le_of_lt (Nat.div_le_self _ _) (by omega)
        refine iteT ⟨_, rfl, _, rfl, ix_sq hrow3 hk2 ⟨_, rfl, _, rfl, p, dx, _, rfl, pk.s _ _ h1, noP, _, rfl, p, ns.length, w, k, rfl, t1.same pk.s, hk2, ?_⟩⟩
        rw [ep]
        refine ix_sq hrow3 (by omega) ⟨_, _, rfl, rfl, _, rfl, ?_⟩
        have ef : faultB ns w k = decide (ns.getD k 0 < ns.getD ((k - 1) / w) 0) := by unfold faultB; rw [decide_eq_true h0, Bool.true_and]
        by_cases hf : ns.getD k 0 < ns.getD ((k - 1) / w) 0
        · rw [decide_eq_true hf] at ef ⊢
          exact iteT ⟨_, rfl, pick_yes hk' (by rw [List.length_range]; omega) (by rw [List.getElem_range, ef]; rfl) (Same.refl _) pk⟩
        · rw [decide_eq_false hf] at ef ⊢
          exact iteF (pick_no hk' (by rw [List.getElem_range, ef]; rfl) (Same.refl _) pk)
      · rw [decide_eq_false (show ¬ (0 : Int) < (k : Nat) by omega)]
        have ef : faultB ns w k = false := by unfold faultB; rw [decide_eq_false h0, Bool.false_and]
        exact iteF (iteF (pick_no hk' (by rw [List.getElem_range, ef]; rfl) (Same.refl _) pk))
    · intro H2 pk
      have ac := pick_end (by rw [pl_len, List.length_range]) pk
      refine q _ D (s1.trans ac.s) (s1.free hD) ?_
      rw [ac.a]
      unfold faultL
      rw [filt_pick]
theorem kb_fau (T : Tx K mg A) : ∃ mv : List Value, KBn K A.d_faults ["row", "arms"] 1 ["arms"] (fun us ws => us ++ (mv ++ ws)) (fun vs zs => vs ++ zs) := by
  obtain ⟨mv, h⟩ := T.F_faults.kbinds0 (ps := ["row", "arms"]) 1 ["arms"] [] (fun us mv ws => us ++ (mv ++ ws)) (by simp) (by simp) (fun r1 r2 r3 => r1.append (r2.append r3))
    (fun D doc pm an cdv ct us mv ws h1 h2 h3 => by
      match us, mv, ws, h1, h2, h3 with
      | [a], [], [c], _, _, _ => rfl)
  exact ⟨mv, h⟩
end
end Tw

set_option Elab.async false
set_option linter.all false
set_option maxRecDepth 100000
set_option maxHeartbeats 2000000
namespace Tw
open PySem PySem.Spec PyProof.Rows L2
section
variable {P : Program} {w : World} {K : PySem.W.Frag} {mg : Str → Option Value} {base : Heap} {A : Ad}
/-! what going down does to a row -/
theorem mem_kid {n w p c : Nat} : c ∈ kidL n w p ↔ 1 ≤ c ∧ c < n ∧ (c - 1) / w = p := by
  unfold kidL
  rw [List.mem_map]
  constructor
  · rintro ⟨k, hk, rfl⟩
    obtain ⟨h1, h2⟩ := List.mem_filter.mp hk
    have h1 := List.mem_range.mp h1
    have h2 := of_decide_eq_true h2
    exact ⟨by omega, by omega, by rw [Nat.add_sub_cancel]; exact h2⟩
  · rintro ⟨h1, h2, h3⟩
    refine ⟨c - 1, List.mem_filter.mpr ⟨List.mem_range.mpr (by omega), decide_eq_true h3⟩, by omega⟩
theorem least_le {ks : List Int} {l : List Nat} {c : Nat} (h : c ∈ l) : keyAt ks (leastC ks l) ≤ keyAt ks c := by
  have hne : l ≠ [] := List.ne_nil_of_mem h
  obtain ⟨n, en⟩ : ∃ n, l.length = n + 1 := ⟨l.length - 1, by have := List.length_pos_iff.mpr hne; omega⟩
  have b := Cl.best_is (fun i => keyAt ks (l.getD i 0)) n
  rw [← en] at b
  obtain ⟨i, hi, e⟩ := List.mem_iff_getElem.mp h
  have this : keyAt ks (l.getD (PySem.argBest (fun i j => decide (keyAt ks (l.getD i 0) < keyAt ks (l.getD j 0))) n) 0) ≤ keyAt ks (l.getD i 0) := b.2.1 i hi
  rw [least_of b] at this
  have e2 : l.getD i 0 = c := by rw [List.getD_eq_getElem?_getD, List.getElem?_eq_getElem hi, ← e]; rfl
  rw [e2] at this
  exact this
theorem keyAt_set {ks : List Int} {a p : Nat} {v : Int} (ha : a < ks.length) : keyAt (ks.set a v) p = if p = a then v else keyAt ks p := by
  unfold keyAt
  rw [List.getD_eq_getElem?_getD, List.getD_eq_getElem?_getD, List.getElem?_set]
  by_cases h : a = p
  · rw [if_pos h, if_pos (by omega), if_pos h.symm]
    rfl
  · rw [if_neg h, if_neg (fun z => h z.symm)]
theorem keyAt_swp {ks : List Int} {a b p : Nat} (ha : a < ks.length) (hb : b < ks.length) : keyAt (swp ks a b) p = if p = b then keyAt ks a else if p = a then keyAt ks b else keyAt ks p := by
  unfold swp
  rw [keyAt_set (by rw [List.length_set]; exact hb), keyAt_set ha]
theorem swp_perm {ks : List Int} {a b : Nat} (ha : a < ks.length) (hb : b < ks.length) : (swp ks a b).Perm ks := by
  have e1 : keyAt ks a = ks[a] := by unfold keyAt; rw [List.getD_eq_getElem?_getD, List.getElem?_eq_getElem ha]; rfl
  have e2 : keyAt ks b = ks[b] := by unfold keyAt; rw [List.getD_eq_getElem?_getD, List.getElem?_eq_getElem hb]; rfl
  unfold swp
  rw [e1, e2]
  exact List.set_set_perm ha hb
/-- no key of a child is less -/
def goodAt (n w : Nat) (ks : List Int) (p : Nat) : Prop := ∀ c ∈ kidL n w p, keyAt ks p ≤ keyAt ks c
def GoodFrom (n w : Nat) (ks : List Int) (i : Nat) : Prop := ∀ p, i ≤ p → p < n → goodAt n w ks p
theorem down_good {n w i : Nat} (hw : 1 ≤ w) : ∀ (f : Nat) (ks : List Int) (cur : Nat) (way : List Nat) (lk : Nat), ks.length = n → i ≤ cur → cur < n → n - cur ≤ f →
    (∀ p, i ≤ p → p < n → p ≠ cur → goodAt n w ks p) → (∀ q, i ≤ q → q < n → cur ∈ kidL n w q → ∀ c ∈ kidL n w cur, keyAt ks q ≤ keyAt ks c) → GoodFrom n w (goDown n w f ks cur way lk).1 i
  | 0, ks, cur, way, lk, hl, hi, hc, hf, g, up => absurd hf (by omega)
  | f + 1, ks, cur, way, lk, hl, hi, hc, hf, g, up => by
    by_cases h0 : kidL n w cur = []
    · rw [goDown_leaf h0]
      intro p h1 h2
      by_cases e : p = cur
      · subst e
        intro c hc
        rw [h0] at hc
        cases hc
      · exact g p h1 h2 e
    · generalize eb : leastC ks (kidL n w cur) = b
      have hm : b ∈ kidL n w cur := eb ▸ least_mem h0
      have hle : ∀ c ∈ kidL n w cur, keyAt ks b ≤ keyAt ks c := fun c hc => eb ▸ least_le hc
      obtain ⟨b1, b2⟩ := kid_in hw hm
      by_cases hlt : keyAt ks b < keyAt ks cur
      · rw [goDown_go h0 eb hlt]
        have ka : cur < ks.length := by omega
        have kb : b < ks.length := by omega
        refine down_good hw f _ b _ _ (by rw [swp_len]; exact hl) (by omega) b2 (by omega) (fun p h1 h2 hp c hcp => ?_) (fun q h1 h2 hq c hcb => ?_)
        · rw [keyAt_swp ka kb, keyAt_swp ka kb, if_neg hp]
          obtain ⟨m1, m2, m3⟩ := mem_kid.mp hcp
          by_cases e : p = cur
          · subst e
            rw [if_pos rfl]
            by_cases ec : c = b
            · rw [if_pos ec]
              omega
            · have := (kid_in hw hcp).1
              rw [if_neg ec, if_neg (by omega)]
              exact hle c hcp
          · rw [if_neg e]
            by_cases ec : c = b
            · subst ec
              exact absurd ((mem_kid.mp hm).2.2.symm.trans m3) (fun z => e z.symm)
            · rw [if_neg ec]
              by_cases ec2 : c = cur
              · subst ec2
                rw [if_pos rfl]
                exact up p h1 h2 hcp b hm
              · rw [if_neg ec2]
                exact g p h1 h2 e c hcp
        · have eq : q = cur := (mem_kid.mp hq).2.2.symm.trans (mem_kid.mp hm).2.2
          subst eq
          have := (kid_in hw hcb).1
          rw [keyAt_swp ka kb, keyAt_swp ka kb, if_neg (by omega), if_pos rfl, if_neg (by omega), if_neg (by omega)]
          exact g b (by omega) b2 (by omega) c hcb
      · rw [goDown_stay h0 (by rw [eb]; exact hlt)]
        intro p h1 h2
        by_cases e : p = cur
        · subst e
          intro c hc
          exact Int.le_trans (Int.not_lt.mp hlt) (hle c hc)
        · exact g p h1 h2 e
theorem down_perm {n w : Nat} (hw : 1 ≤ w) : ∀ (f : Nat) (ks : List Int) (cur : Nat) (way : List Nat) (lk : Nat), ks.length = n → cur < n → ((goDown n w f ks cur way lk).1).Perm ks
  | 0, ks, cur, way, lk, hl, hc => List.Perm.refl _
  | f + 1, ks, cur, way, lk, hl, hc => by
    by_cases h0 : kidL n w cur = []
    · rw [goDown_leaf h0]
    · obtain ⟨b1, b2⟩ := kid_in hw (least_mem (ks := ks) h0)
      by_cases hlt : keyAt ks (leastC ks (kidL n w cur)) < keyAt ks cur
      · rw [goDown_go h0 rfl hlt]
        exact (down_perm hw f _ _ _ _ (by rw [swp_len]; exact hl) b2).trans (swp_perm (by omega) (by omega))
      · rw [goDown_stay h0 hlt]
theorem down_still {n w f : Nat} {ks : List Int} {p : Nat} (h0 : kidL n w p ≠ []) (g : goodAt n w ks p) : goDown n w (f + 1) ks p [p] 0 = (ks, [p], (kidL n w p).length) := by
  have := g _ (least_mem (ks := ks) h0)
  rw [goDown_stay h0 (by omega), Nat.zero_add]
theorem down_way (n w : Nat) : ∀ f ks p way lk, way ≠ [] → (goDown n w f ks p way lk).2.1 ≠ []
  | 0, ks, p, way, lk, h => h
  | f + 1, ks, p, way, lk, h => by
    unfold goDown
    split
    · exact h
    · split
      · exact down_way n w f _ _ _ _ (by simp)
      · exact h
theorem down_ways (n w : Nat) : ∀ f ks p way lk, (goDown n w f ks p way lk).2.1.length ≤ way.length + f
  | 0, ks, p, way, lk => Nat.le_refl _
  | f + 1, ks, p, way, lk => by
    unfold goDown
    split
    · exact Nat.le_add_right _ _
    · split
      · have := down_ways n w f (swp ks p (leastC ks (kidL n w p))) (leastC ks (kidL n w p)) (way ++ [leastC ks (kidL n w p)]) (lk + (kidL n w p).length)
        rw [List.length_append, List.length_singleton] at this
        omega
      · exact Nat.le_add_right _ _
/-! building -/
abbrev BSt := List Int × List (Int × Int) × Nat × Nat
def lastW (l : List Nat) : Nat := l.getLastD 0
def bstep (n w : Nat) (st : BSt) (p : Nat) : BSt := if kidL n w p = [] then st else
  ((goDown n w 20 st.1 p [p] 0).1, st.2.1 ++ [((p : Int), ((lastW (goDown n w 20 st.1 p [p] 0).2.1 : Nat) : Int))], st.2.2.1 + ((goDown n w 20 st.1 p [p] 0).2.1.length - 1), st.2.2.2 + (goDown n w 20 st.1 p [p] 0).2.2)
def bld (n w : Nat) (ks : List Int) : Nat → BSt
  | 0 => (ks, [], 0, 0)
  | i + 1 => bstep n w (bld n w ks i) (n - 1 - i)
theorem bld_len (n w : Nat) (ks : List Int) : ∀ i, (bld n w ks i).1.length = ks.length
  | 0 => rfl
  | i + 1 => by
    unfold bld bstep
    split
    · exact bld_len n w ks i
    · show (goDown n w 20 (bld n w ks i).1 _ _ 0).1.length = _
      rw [down_res, bld_len n w ks i]
theorem bld_stops (n w : Nat) (ks : List Int) : ∀ i, (bld n w ks i).2.1.length ≤ i
  | 0 => Nat.le_refl _
  | i + 1 => by
    have := bld_stops n w ks i
    unfold bld bstep
    split
    · omega
    · show ((bld n w ks i).2.1 ++ [_]).length ≤ _
      rw [List.length_append, List.length_singleton]
      omega
theorem bld_perm {n w : Nat} (hw : 1 ≤ w) {ks : List Int} (hl : ks.length = n) : ∀ i, i ≤ n → ((bld n w ks i).1).Perm ks
  | 0, _ => List.Perm.refl _
  | i + 1, hi => by
    have ih := bld_perm hw hl i (by omega)
    unfold bld bstep
    split
    · exact ih
    · exact (down_perm hw 20 _ _ _ _ (by rw [bld_len]; exact hl) (by omega)).trans ih
theorem bld_good {n w : Nat} (hw : 1 ≤ w) (hn : n ≤ 12) {ks : List Int} (hl : ks.length = n) : ∀ i, i ≤ n → GoodFrom n w (bld n w ks i).1 (n - i)
  | 0, _ => fun p h1 h2 => absurd h1 (by omega)
  | i + 1, hi => by
    have ih := bld_good hw hn hl i (by omega)
    unfold bld bstep
    split
    · rename_i h0
      intro p h1 h2
      by_cases e : p = n - 1 - i
      · subst e
        intro c hc
        rw [h0] at hc
        cases hc
      · exact ih p (by omega) h2
    · refine down_good hw 20 _ _ _ _ (by rw [bld_len]; exact hl) (by omega) (by omega) (by omega) (fun p h1 h2 hp => ih p (by omega) h2) (fun q h1 h2 hq => ?_)
      have := (kid_in hw hq).1
      exact absurd h1 (by omega)
/-- a row without a bad place is built to itself -/
theorem bld_same {n w : Nat} {ks : List Int} (hl : ks.length = n) (g : GoodFrom n w ks 0) : ∀ i, i ≤ n → (bld n w ks i).1 = ks ∧ (bld n w ks i).2.2.1 = 0 ∧ ∀ z ∈ (bld n w ks i).2.1, z.1 = z.2
  | 0, _ => ⟨rfl, rfl, fun z hz => (nomatch hz)⟩
  | i + 1, hi => by
    obtain ⟨h1, h2, h3⟩ := bld_same hl g i (by omega)
    unfold bld bstep
    split
    · exact ⟨h1, h2, h3⟩
    · rename_i h0
      rw [h1, down_still h0 (g _ (Nat.zero_le _) (by omega))]
      refine ⟨rfl, by rw [h2]; rfl, fun z hz => ?_⟩
      rcases List.mem_append.mp hz with z1 | z1
      · exact h3 z z1
      · rw [List.mem_singleton.mp z1]
        rfl
end
end Tw

set_option Elab.async false
set_option linter.all false
set_option maxRecDepth 100000
set_option maxHeartbeats 2000000
namespace Tw
open PySem PySem.Spec PyProof.Rows L2
section
variable {P : Program} {w : World} {K : PySem.W.Frag} {mg : Str → Option Value} {base : Heap} {A : Ad}
open LamX (ExtN Tabs TabS)
/-- for x in e, e a list or a tuple -/
def iSeq (K : PySem.W.Frag) (tl : TE) : TI := fun σ H R => tl σ H fun x H1 => ∃ a xs, x = .ref a ∧ ((SqL K H1 a xs ∧ R (Itl K a) H1) ∨ (SqT K H1 a xs ∧ R (Itt K a) H1))
theorem pi_seq {X : Cx} {tg l : Expr} {tl : TE} (hl : PE X l tl) : PI X tg l (iSeq X.K tl) := by
  refine ⟨fun pins s σ H R I h => thn (hl.run pins s σ H _ I h) fun v s1 ⟨x, H1, I1, r1, a, xs, e, q⟩ => ?_⟩
  subst e
  obtain rfl : v = Value.ref a := r1
  have fp : ∀ b ∈ [s1.heap.objs.size], FpOk X pins H1 b := fun b hb => by
    rw [List.mem_singleton.mp hb]
    exact I1.fpOk (Nat.le_refl _) I1.fresh
  rcases q with ⟨hq, q⟩ | ⟨hq, q⟩
  · obtain ⟨its, rv, pl, hz⟩ := I1.list hq
    exact wpAny_pyIter_list pl.isList ⟨s1.heap.objs.size, _, _, _, H1, rfl, I1.kept (t' := s1.toks) fun _ _ e => Heap.get?_push_of_some _ e, turn_list a _, ⟨_, Heap.get?_push_size _ rfl, rfl, rfl⟩, fp, q⟩
  · obtain ⟨its, rv, pl, hz⟩ := I1.tuple hq
    exact wpAny_pyIter_tuple (show s1.heap.IsTuple a its.toArray from pl) ⟨s1.heap.objs.size, _, _, _, H1, rfl, I1.kept (t' := s1.toks) fun _ _ e => Heap.get?_push_of_some _ e, turn_tuple a _, ⟨_, Heap.get?_push_size _ rfl, rfl, rfl⟩, fp, q⟩
def rTupOf (K : PySem.W.Frag) : List V → Hp → VK → Prop := fun xs H Q => ∃ p ys, xs = [V.ref p] ∧ ((SqL K H p ys ∧ ∀ l, H l = none → Q (.ref l) (upd H l (.tup ys))) ∨ SqT K H p ys ∧ Q (.ref p) H)
theorem call_tupK {X : Cx} : CallR X (.type "tuple") (rTupOf X.K) := call_tuple_of
theorem q1 : ¬ (("row" : Str) = "stops") := by decide +kernel
theorem q2 : ¬ (("row" : Str) = "changes") := by decide +kernel
theorem q3 : ¬ (("stops" : Str) = "changes") := by decide +kernel
theorem q4 : ¬ (("stops" : Str) = "looks") := by decide +kernel
theorem q5 : ¬ (("changes" : Str) = "looks") := by decide +kernel
def uf (t1 t2 ch lk : Nat) : List (Str × V) := putF "looks" (.int lk) (putF "changes" (.int ch) (putF "stops" (.ref t2) (putF "row" (.ref t1) [])))
theorem uf_row (t1 t2 ch lk : Nat) : (uf t1 t2 ch lk).lookup ("row" : Str) = some (.ref t1) := by
  unfold uf
  rw [lookup_putF, if_neg m2, lookup_putF, if_neg q2, lookup_putF, if_neg q1, lookup_putF, if_pos rfl]
theorem uf_stops (t1 t2 ch lk : Nat) : (uf t1 t2 ch lk).lookup ("stops" : Str) = some (.ref t2) := by
  unfold uf
  rw [lookup_putF, if_neg q4, lookup_putF, if_neg q3, lookup_putF, if_pos rfl]
theorem uf_changes (t1 t2 ch lk : Nat) : (uf t1 t2 ch lk).lookup ("changes" : Str) = some (.int ch) := by
  unfold uf
  rw [lookup_putF, if_neg q5, lookup_putF, if_pos rfl]
theorem uf_looks (t1 t2 ch lk : Nat) : (uf t1 t2 ch lk).lookup ("looks" : Str) = some (.int lk) := by
  unfold uf
  rw [lookup_putF, if_pos rfl]
/-- a pair of ints at an address -/
def PrAt (H : Hp) (v : V) (p : Int × Int) : Prop := ∃ t, v = .ref t ∧ H t = some (.tup [.int p.1, .int p.2])
abbrev PrsAt (H : Hp) : List V → List (Int × Int) → Prop := Paired (PrAt H)
theorem PrsAt.ext {H H' : Hp} {xs : List V} {ps : List (Int × Int)} (h : PrsAt H xs ps) (e : ExtN H H') : PrsAt H' xs ps := L2.Paired.mapP h fun _ _ ⟨t, q, z⟩ => ⟨t, q, e _ _ z fun ps z => nomatch z⟩
theorem PrsAt.same {H H' : Hp} {xs : List V} {ps : List (Int × Int)} (h : PrsAt H xs ps) (s : Same H H') : PrsAt H' xs ps := h.ext (extN_of s)
theorem PrsAt.push {H : Hp} {x : V} {p : Int × Int} (hp : PrAt H x p) : ∀ {xs : List V} {ps : List (Int × Int)}, PrsAt H xs ps → PrsAt H (xs ++ [x]) (ps ++ [p])
  | _, _, .nil => .cons hp .nil
  | _, _, .cons a b => .cons a (PrsAt.push hp b)
theorem PrsAt.put {H : Hp} {D : Addr} {o : HO} {xs zs : List V} {ps : List (Int × Int)} (hD : H D = some (.lst zs)) : PrsAt H xs ps → PrsAt (upd H D o) xs ps := fun h =>
  L2.Paired.mapP h fun _ _ ⟨t, e, z⟩ => ⟨t, e, by rw [upd_ne (ne_of z hD (by intro q; cases q))]; exact z⟩
theorem prs_get {H : Hp} : ∀ {xs : List V} {ps : List (Int × Int)} {i : Nat} {x : V}, PrsAt H xs ps → xs[i]? = some x → ∃ p, ps[i]? = some p ∧ PrAt H x p
  | _, _, 0, x, .cons a b, h => ⟨_, rfl, by cases h; exact a⟩
  | _, _, i + 1, x, .cons a b, h => prs_get (i := i) b h
def SqV (H : Hp) (a : Addr) (xs : List V) : Prop := H a = some (.lst xs) ∨ H a = some (.tup xs)
/-- a Built stands at p -/
def BuiltAt (C : Addr) (H : Hp) (p : Addr) (ks : List Int) (ps : List (Int × Int)) (ch lk : Nat) : Prop := ∃ (dx t1 t2 : Addr) (xs : List V), H p = some (.ins C dx (uf t1 t2 ch lk)) ∧ H t1 = some (.tup (ks.map V.int)) ∧ H t2 = some (.tup xs) ∧ PrsAt H xs ps
theorem BuiltAt.ext {C : Addr} {H H' : Hp} {p : Addr} {ks : List Int} {ps : List (Int × Int)} {ch lk : Nat} (h : BuiltAt C H p ks ps ch lk) (e : ExtN H H') : BuiltAt C H' p ks ps ch lk := by
  obtain ⟨dx, t1, t2, xs, a, b, c, d⟩ := h
  exact ⟨dx, t1, t2, xs, e _ _ a (fun ps z => nomatch z), e _ _ b (fun ps z => nomatch z), e _ _ c (fun ps z => nomatch z), d.ext e⟩
theorem BuiltAt.same {C : Addr} {H H' : Hp} {p : Addr} {ks : List Int} {ps : List (Int × Int)} {ch lk : Nat} (h : BuiltAt C H p ks ps ch lk) (s : Same H H') : BuiltAt C H' p ks ps ch lk := h.ext (extN_of s)
def spBi (C : Addr) : Sp := fun vs H Q _ => ∃ (p dx a b ch lk : Nat) (ks : List Int) (xs : List V) (ps : List (Int × Int)), vs = [.ref p, .ref a, .ref b, .int ch, .int lk] ∧ H p = some (.ins C dx []) ∧ Sq H a (ks.map V.int) ∧ SqV H b xs ∧ PrsAt H xs ps ∧ ps.length ≤ 900 ∧
  ∀ (H' : Hp), (∀ b o, H b = some o → b ≠ p → H' b = some o) → BuiltAt C H' p ks ps ch lk → Q .non H'
theorem ok_bi (T : Tx K mg A) : FnOk P w K mg base CX0 2 A.f_u___init__ A.d_u___init__ ["self", "row", "stops", "changes", "looks"] (spBi A.CB) := by
  refine T.F_u___init__.ok sc_u___init__ (fun vs H Q E h => ?_) (fun cdv B outer s H vs Q E hr h => ?_)
  · obtain ⟨p, dx, a, b, ch, lk, ks, xs, ps, rfl, _⟩ := h
    rfl
  · obtain ⟨p, dx, a, b, ch, lk, ks, xs, ps, rfl, hp, ha, hb, hps, hpl, q⟩ := h
    have nd := sc_u___init__.nd
    refine ⟨_, (C8.pss_cut (ps_fld (pv 0) (pe_callTy call_tuple_of (by rfl) T.g_tuple (by decide +kernel) (pa_cons (pv 1) pa_nil)) rfl)
      (C8.pss_cut (ps_fld (pv 0) (pe_callTy call_tuple_of (by rfl) T.g_tuple (by decide +kernel) (pa_cons (pe_lc (own := [("stop", 5)]) (g := gName 5) (tt := tYes) rfl nd (pi_seq (pv 2)) (blkOk_by (own := [("stop", 5)]) (N := ["self", "row", "stops", "changes", "looks", "stop"]) (sc := defScope s_u___init__) (by decide +kernel)) (fun _ _ _ _ _ => pg_name (i := 5) nd rfl (Or.inl rfl)) (fun _ _ _ _ _ => pts_nil) (fun _ _ _ _ _ => (pe_callTy (r := rTupOf K) call_tupK (by rfl) T.g_tuple (by decide +kernel) (pa_cons (pv 5) pa_nil)))) pa_nil)) rfl)
      (pss_cons (ps_fld (pv 0) (pv 3) rfl)
      (pss_one (ps_fld (pv 0) (pv 4) rfl))))), ?_⟩
    have npa : p ≠ a := fun z => by rcases ha with h | h <;> rw [← z, hp] at h <;> cases h
    have npb : p ≠ b := fun z => by rcases hb with h | h <;> rw [← z, hp] at h <;> cases h
    generalize eS : (L2.start ["self", "row", "stops", "changes", "looks", "stop"] [V.ref p, .ref a, .ref b, .int ch, .int lk] : L2.St) = S0
    refine ⟨fun σ H' => ∃ t1 : Addr, σ = S0 ∧ (∀ c o, H c = some o → c ≠ p → H' c = some o) ∧ H' p = some (.ins A.CB dx (putF "row" (.ref t1) [])) ∧ H' t1 = some (.tup (ks.map V.int)) ∧ t1 ≠ p, ?_, ?_⟩
    · subst eS
      have go : ∀ (H1 : Hp) (t1 : Addr), Same H H1 → H1 t1 = some (.tup (ks.map V.int)) → ∃ t2 : Addr, (L2.start ["self", "row", "stops", "changes", "looks", "stop"] [V.ref p, .ref a, .ref b, .int ch, .int lk] : L2.St) = L2.start ["self", "row", "stops", "changes", "looks", "stop"] [V.ref p, .ref a, .ref b, .int ch, .int lk] ∧
          (∀ c o, H c = some o → c ≠ p → upd H1 p (.ins A.CB dx (putF "row" (.ref t1) [])) c = some o) ∧ upd H1 p (.ins A.CB dx (putF "row" (.ref t1) [])) p = some (.ins A.CB dx (putF "row" (.ref t2) [])) ∧ upd H1 p (.ins A.CB dx (putF "row" (.ref t1) [])) t2 = some (.tup (ks.map V.int)) ∧ t2 ≠ p := fun H1 t1 s1 e1 => by
        have n1 : t1 ≠ p := fun z => by rw [z, s1 _ _ hp] at e1; cases e1
        exact ⟨t1, rfl, fun c o e n => by rw [upd_ne n]; exact s1 _ _ e, upd_same, by rw [upd_ne n1]; exact e1, n1⟩
      rcases ha with h | h
      · exact ⟨_, rfl, a, _, rfl, .inl ⟨SqL.of h, fun t1 ht1 => ⟨_, rfl, p, A.CB, dx, _, rfl, (Same.up ht1) _ _ hp, T.cTB, T.bRow, (by show 0 < 1000; decide), go _ t1 (Same.up ht1) upd_same⟩⟩⟩
      · exact ⟨_, rfl, a, _, rfl, .inr ⟨SqT.of h, _, rfl, p, A.CB, dx, _, rfl, hp, T.cTB, T.bRow, (by show 0 < 1000; decide), go H a (Same.refl _) h⟩⟩
    rintro σ H1 ⟨t1, eq, k1, hp1, e1, n1⟩
    subst σ
    have hb1 : SqV H1 b xs := hb.elim (fun h => .inl (k1 _ _ h npb.symm)) fun h => .inr (k1 _ _ h npb.symm)
    have hps1 : PrsAt H1 xs ps := L2.Paired.mapP hps fun _ _ ⟨t, e, z⟩ => ⟨t, e, k1 _ _ z (fun q => by rw [q, hp] at z; cases z)⟩
    refine ⟨fun σ H' => ∃ t2 : Addr, σ = S0 ∧ (∀ c o, H1 c = some o → c ≠ p → H' c = some o) ∧ H' p = some (.ins A.CB dx (putF "stops" (.ref t2) (putF "row" (.ref t1) []))) ∧ H' t2 = some (.tup xs) ∧ t2 ≠ p, ?_, ?_⟩
    · subst eS
      have lenX : xs.length = ps.length := Paired.length hps
      have fin : ∀ H2 : Hp, Same H1 H2 → ∀ (D : Addr), H2 D = some (.lst xs) → ∀ t2, H2 t2 = Option.none → ∃ t3 : Addr, (L2.start ["self", "row", "stops", "changes", "looks", "stop"] [V.ref p, .ref a, .ref b, .int ch, .int lk] : L2.St) = L2.start ["self", "row", "stops", "changes", "looks", "stop"] [V.ref p, .ref a, .ref b, .int ch, .int lk] ∧
          (∀ c o, H1 c = some o → c ≠ p → upd (upd H2 t2 (.tup xs)) p (.ins A.CB dx (putF "stops" (.ref t2) (putF "row" (.ref t1) []))) c = some o) ∧ upd (upd H2 t2 (.tup xs)) p (.ins A.CB dx (putF "stops" (.ref t2) (putF "row" (.ref t1) []))) p = some (.ins A.CB dx (putF "stops" (.ref t3) (putF "row" (.ref t1) []))) ∧ upd (upd H2 t2 (.tup xs)) p (.ins A.CB dx (putF "stops" (.ref t2) (putF "row" (.ref t1) []))) t3 = some (.tup xs) ∧ t3 ≠ p := fun H2 s2 D hD t2 h2 => by
        have n2 : t2 ≠ p := fun z => by rw [z, s2 _ _ hp1] at h2; cases h2
        exact ⟨t2, rfl, fun c o e n => by rw [upd_ne n]; exact (Same.up h2) _ _ (s2 _ _ e), upd_same, by rw [upd_ne n2]; exact upd_same, n2⟩
      rcases hb1 with h | h
      · refine ⟨_, rfl, b, _, rfl, .inl ⟨SqL.of h, fun D hD => ?_⟩⟩
        refine lc_list (K := K) (a := b) (xs := xs) (fun i H' => Acc H1 D (xs.take i) H') (Acc.start hD) (fun i H' _ ac => SqL.of (ac.s _ _ h)) ?_ ?_
        · rintro i x H' hx ac
          obtain ⟨pp, _, t, rfl, ht⟩ := prs_get hps1 hx
          have hi := (List.getElem?_eq_some_iff.mp hx).1
          refine ⟨rfl, iteT (B := Acc H1 D (xs.take (i + 1)) H') ⟨_, rfl, t, _, rfl, .inr ⟨SqT.of (ac.s _ _ ht), _, ac.a, small1000 (by rw [List.length_take]; omega), ?_⟩⟩⟩
          have e : xs.take i ++ [V.ref t] = xs.take (i + 1) := by rw [List.take_succ, hx]; rfl
          rw [e]
          exact ac.push
        · intro H' ac
          have ad := ac.a
          rw [List.take_length] at ad
          exact ⟨_, _, rfl, .inl ⟨SqL.of ad, fun t2 h2 => ⟨_, rfl, p, A.CB, dx, _, rfl, (Same.up h2) _ _ (ac.s _ _ hp1), T.cTB, T.bStops, (by show 1 < 1000; decide), fin H' ac.s D ad t2 h2⟩⟩⟩
      · refine ⟨_, rfl, b, _, rfl, .inr ⟨SqT.of h, fun D hD => ?_⟩⟩
        refine lc_it (walk_tup (xs := xs)) (fun i H' => Acc H1 D (xs.take i) H') (Acc.start hD) (fun i H' _ ac => SqT.of (ac.s _ _ h)) ?_ ?_
        · rintro i x H' H2 hi ac ⟨rfl, hx⟩
          obtain ⟨pp, _, t, rfl, ht⟩ := prs_get hps1 hx
          refine ⟨rfl, iteT (B := Acc H1 D (xs.take (i + 1)) H2) ⟨_, rfl, t, _, rfl, .inr ⟨SqT.of (ac.s _ _ ht), _, ac.a, small1000 (by rw [List.length_take]; omega), ?_⟩⟩⟩
          have e : xs.take i ++ [V.ref t] = xs.take (i + 1) := by rw [List.take_succ, hx]; rfl
          rw [e]
          exact ac.push
        · intro H' ac
          have ad := ac.a
          rw [List.take_length] at ad
          exact ⟨_, _, rfl, .inl ⟨SqL.of ad, fun t2 h2 => ⟨_, rfl, p, A.CB, dx, _, rfl, (Same.up h2) _ _ (ac.s _ _ hp1), T.cTB, T.bStops, (by show 1 < 1000; decide), fin H' ac.s D ad t2 h2⟩⟩⟩
    rintro σ H2 ⟨t2, eq, k2, hp2, e2, n2⟩
    subst σ
    subst eS
    refine ⟨_, rfl, _, rfl, p, A.CB, dx, _, rfl, hp2, T.cTB, T.bChanges, (by simp only [putF, q1, if_false]; show 2 < 1000; decide), ?_⟩
    refine ⟨_, rfl, _, rfl, p, A.CB, dx, _, rfl, upd_same, T.cTB, T.bLooks, (by simp only [putF, q1, q2, q3, if_false]; show 3 < 1000; decide), ?_⟩
    refine q _ (fun c o e hc => ?_) ⟨dx, t1, t2, xs, upd_same, ?_, ?_, ?_⟩
    · rw [upd_ne hc, upd_ne hc]
      exact k2 _ _ (k1 _ _ e hc) hc
    · rw [upd_ne n1, upd_ne n1]
      exact k2 _ _ e1 n1
    · rw [upd_ne n2, upd_ne n2]
      exact e2
    · exact L2.Paired.mapP hps1 fun _ _ ⟨t, e, z⟩ => ⟨t, e, by
        have nt : t ≠ p := fun y => by rw [y, hp1] at z; cases z
        rw [upd_ne nt, upd_ne nt]
        exact k2 _ _ z nt⟩
theorem b_bi (T : Tx K mg A) : L2.Binds K A.d_u___init__ ["self", "row", "stops", "changes", "looks"] [] := T.F_u___init__.binds fun _ _ _ _ _ _ us hl => match us, hl with | [_, _, _, _, _], _ => rfl
theorem b_bq (T : Tx K mg A) : L2.Binds K A.d_u___eq__ ["self", "other"] [] := T.F_u___eq__.binds fun _ _ _ _ _ _ us hl => match us, hl with | [_, _], _ => rfl

end
end Tw

set_option Elab.async false
set_option linter.all false
set_option maxRecDepth 100000
set_option maxHeartbeats 2000000
namespace Tw
open PySem PySem.Spec PyProof.Rows L2
section
variable {P : Program} {w : World} {K : PySem.W.Frag} {mg : Str → Option Value} {base : Heap} {A : Ad}
/-- a walk, whatever its turns do -/
theorem walk_gen {J : It} {n : Nat} {G : Hp → Prop} {Y : Nat → Hp → V → Hp → Prop} (w : Walk J n G Y) {Bd : (Hp → Prop) → V → Hp → Prop} {Qd : Hp → Prop} {H0 : Hp} (Pv : Nat → Hp → Prop) (h0 : Pv 0 H0) (hG : ∀ i H, i ≤ n → Pv i H → G H)
    (hs : ∀ i x H H', i < n → Pv i H → Y i H x H' → Bd (Pv (i + 1)) x H') (hd : ∀ H, Pv n H → Qd H) :
    ∃ W : Nat → Nat → Hp → Prop, (∃ m, W 0 m H0) ∧ ∀ i m H, W i m H →
      (J.stop i H ∧ Qd H) ∨ (J.go i H ∧ ∃ Nx : Hp → Prop, (∀ H', Nx H' → ∃ m', m' < m ∧ W (i + 1) m' H') ∧ ∀ x H', J.yld i H x H' → Bd Nx x H') := by
  refine ⟨fun i m H => m = n - i ∧ i ≤ n ∧ Pv i H, ⟨n, (Nat.sub_zero n).symm, Nat.zero_le _, h0⟩, ?_⟩
  rintro i m H ⟨rfl, hi, p⟩
  have q := hG i H hi p
  by_cases hlt : i < n
  · exact .inr ⟨w.goes i H hlt q, Pv (i + 1), fun H' p' => ⟨n - (i + 1), by omega, rfl, hlt, p'⟩, fun x H' y => hs i x H H' hlt p (w.yields i H x H' hlt q y)⟩
  · obtain rfl : i = n := by omega
    exact .inl ⟨w.stops H q, hd H p⟩
/-- a list of pairs under way -/
structure AccP (H1 : Hp) (D : Addr) (ps : List (Int × Int)) (H : Hp) : Prop where
  s : Same H1 H
  n : H1 D = none
  a : ∃ xs, H D = some (.lst xs) ∧ PrsAt H xs ps
theorem AccP.start {H1 : Hp} {D : Addr} (n : H1 D = none) : AccP H1 D [] (upd H1 D (.lst [])) := ⟨Same.up n, n, [], upd_same, .nil⟩
theorem AccP.same {H1 H H' : Hp} {D : Addr} {ps : List (Int × Int)} (h : AccP H1 D ps H) (s : Same H H') : AccP H1 D ps H' :=
  ⟨h.s.trans s, h.n, let ⟨xs, e, z⟩ := h.a; ⟨xs, s _ _ e, z.same s⟩⟩
theorem AccP.push {H1 H : Hp} {D : Addr} {ps : List (Int × Int)} {x : V} {p : Int × Int} (h : AccP H1 D ps H) (hp : PrAt H x p) (hl : ps.length ≤ 999) :
    ∃ acc, H D = some (.lst acc) ∧ acc.length < sizeLine ∧ AccP H1 D (ps ++ [p]) (upd H D (.lst (acc ++ [x]))) := by
  obtain ⟨xs, e, z⟩ := h.a
  refine ⟨xs, e, small1000 (by rw [z.length]; omega), fun b o k => ?_, h.n, xs ++ [x], upd_same, (PrsAt.push hp z).put e⟩
  rw [upd_ne (ne_of_none k h.n)]
  exact h.s b o k
/-- the fallen pairs of a row -/
def fallR (ns : List Int) (p : Nat) (l : List Nat) : List (Int × Int) := (l.filter fun j => decide (ns.getD j 0 < ns.getD p 0)).map fun (j : Nat) => ((p : Int), ((j : Nat) : Int))
def fallN (ns : List Int) (w k : Nat) : List (Int × Int) := (List.range k).flatMap fun p => fallR ns p (subL ns.length w p)
theorem fallR_len (ns : List Int) (p : Nat) (l : List Nat) : (fallR ns p l).length ≤ l.length := by
  unfold fallR
  rw [List.length_map]
  exact List.length_filter_le _ _
theorem sub_n (n w i : Nat) : (subL n w i).length ≤ n := by
  unfold subL
  exact Nat.le_trans (List.length_filter_le _ _) (by rw [List.length_range]; exact Nat.le_refl _)
theorem fallN_len (ns : List Int) (w : Nat) (hn : ns.length ≤ 12) : ∀ k, (fallN ns w k).length ≤ 12 * k
  | 0 => Nat.le_refl _
  | k + 1 => by
    unfold fallN
    rw [List.range_succ, List.flatMap_append, List.length_append]
    have h1 := fallN_len ns w hn k
    unfold fallN at h1
    have h2 := fallR_len ns k (subL ns.length w k)
    have h3 := sub_n ns.length w k
    simp only [List.flatMap_cons, List.flatMap_nil, List.append_nil]
    omega
theorem fallN_succ (ns : List Int) (w k : Nat) : fallN ns w (k + 1) = fallN ns w k ++ fallR ns k (subL ns.length w k) := by
  unfold fallN
  rw [List.range_succ, List.flatMap_append]
  simp only [List.flatMap_cons, List.flatMap_nil, List.append_nil]
theorem fallR_take (ns : List Int) (p : Nat) (l : List Nat) (j : Nat) (hj : j < l.length) : fallR ns p (l.take (j + 1)) = fallR ns p (l.take j) ++ if ns.getD l[j] 0 < ns.getD p 0 then [((p : Int), ((l[j] : Nat) : Int))] else [] := by
  unfold fallR
  rw [List.take_succ_eq_append_getElem hj, List.filter_append, List.map_append]
  congr 1
  by_cases h : ns.getD l[j] 0 < ns.getD p 0
  · rw [List.filter_cons_of_pos (p := fun j => decide (ns.getD j 0 < ns.getD p 0)) (decide_eq_true h), if_pos h]
    rfl
  · rw [List.filter_cons_of_neg (p := fun j => decide (ns.getD j 0 < ns.getD p 0)) (by rw [decide_eq_false h]; exact Bool.false_ne_true), if_neg h]
    rfl
def spFal : Sp := fun vs H Q _ => ∃ (a w : Nat) (ns : List Int), vs = [.ref a, .int w] ∧ (1 ≤ w ∧ w ≤ 4) ∧ RowIn H a ns ∧ ∀ H' q xs, Same H H' → H q = none → H' q = some (.lst xs) → PrsAt H' xs (fallN ns w ns.length) → Q (.ref q) H'
theorem ok_fal (T : Tx K mg A) : FnOk P w K mg base CX0 7 A.f_falls A.d_falls ["row", "arms"] spFal := by
  obtain ⟨mo, ko⟩ := kb_of T
  refine T.F_falls.ok sc_falls (fun vs H Q E h => ?_) (fun cdv B outer s H vs Q E hr h => ?_)
  · obtain ⟨a, w, ns, rfl, _⟩ := h
    rfl
  · obtain ⟨a, w, ns, rfl, hw, hrow, q⟩ := h
    have nd := sc_falls.nd
    refine ⟨_, PSs.nox (pss_cons (ps_set (i := 2) nd rfl (Or.inr rfl) (pe_cmethK (pe_glob (v := .ref A.C) (by rfl) T.mC (relR _)) T.cr T.cof (ok_of T) hr ko pass0 (pa_cons (pv 0) pa_nil) (pk_cons (pv 1) pk_nil)))
      (pss_one (ps_ret (pe_lc2 (own := [("place", 3), ("below", 4)]) (vs1 := [4]) (g := gName 3) (g1 := gName 4) (tt := tYes) (wi1 := iTup K (tMeth A.C "subtree" (spSub A.C) [] E0 (tVar 2) (tCons (tVar 3) tNil))) rfl nd (pi_own T.D_t___iter__ (ok_iter T) (hr.mono (by decide)) (b_iter T) (pv 2))
        (blkOk_by (own := [("place", 3), ("below", 4)]) (N := ["row", "arms", "tree", "place", "below"]) (sc := defScope s_falls) (by decide +kernel)) (by decide)
        (fun _ _ _ _ _ => pg_name (i := 3) nd rfl (Or.inl rfl)) (fun _ _ _ _ _ => pts_nil)
        (fun _ _ _ _ _ => pi_tup (pe_meth (pv 2) T.cT T.M_t_subtree (ok_sub T) hr (b_sub T) .nil pass0 (pa_cons (pv 3) pa_nil)))
        (fun _ _ _ _ _ => pg_name (i := 4) nd rfl (Or.inl rfl))
        (fun _ _ _ _ _ => pts_one (pt_cmpR op_lt (pe_ix (r := rIx K) ix_seq (pv 0) (pv 4) (fun _ _ => rfl)) (pe_ix (r := rIx K) ix_seq (pv 0) (pv 3) (fun _ _ => rfl)) (nomark _)))
        (fun _ _ _ _ _ => pe_tup (pa_cons (pv 3) (pa_cons (pv 4) pa_nil))))))), ?_⟩
    refine ⟨rfl, _, rfl, _, rfl, rfl, rfl, a, w, ns, rfl, hw, hrow.1, hrow.2.1, hrow.2.2, fun H1 p s1 p0 t1 => ?_⟩
    obtain ⟨dx, l, h1, h2⟩ := t1.ob
    have noS : (tf ns.length w l).lookup ("subtree" : Str) = none := tf_no _ _ _ (by decide +kernel) (by decide +kernel) (by decide +kernel)
    have hlen := hrow.2.1
    refine ⟨_, rfl, p, dx, _, l, _, rfl, h1, tf_pl _ _ _, SqT.of h2, fun D hD => ?_⟩
    refine walk_gen (walk_tup (xs := pl ns.length)) (fun i H' => AccP H1 D (fallN ns w i) H') (AccP.start hD) (fun k H' _ h => SqT.of (h.s _ _ h2)) ?_ ?_
    · rintro k x H2 H3 hk ac ⟨rfl, ex⟩
      obtain ⟨hk', rfl⟩ := map_at ex
      rw [List.getElem_range]
      have hk2 : k < ns.length := by rw [List.length_range] at hk'; exact hk'
      refine ⟨rfl, ?_⟩
      refine iteT (B := AccP H1 D (fallN ns w (k + 1)) H3) ?_
      refine ⟨_, rfl, p, dx, _, rfl, ac.s _ _ h1, noS, _, rfl, p, ns.length, w, k, rfl, t1.same ac.s, hk2, fun H4 b s4 b0 hb => ?_⟩
      have ac4 := ac.same s4
      refine ⟨b, rfl, ⟨_, SqT.of hb⟩, ?_⟩
      have hsub := sub_n ns.length w k
      have hfn := fallN_len ns w hlen k
      refine walk_gen (walk_tup (xs := vi (subL ns.length w k))) (fun j H' => AccP H1 D (fallN ns w k ++ fallR ns k ((subL ns.length w k).take j)) H' ∧ H' b = some (.tup (vi (subL ns.length w k)))) ⟨?_, hb⟩ (fun j H' _ h => SqT.of h.2) ?_ ?_
      · rw [List.take_zero, show fallR ns k [] = [] from rfl, List.append_nil]
        exact ac4
      · rintro j x H5 H6 hj ⟨ac5, hb5⟩ ⟨rfl, ex⟩
        obtain ⟨hj', rfl⟩ := map_at ex
        have hj2 : (subL ns.length w k)[j] < ns.length := List.mem_range.mp (List.mem_filter.mp (List.getElem_mem hj')).1
        have hrow5 := (hrow.1.same s1).same ac5.s
        refine ⟨rfl, _, rfl, _, rfl, ix_sq hrow5 hj2 ⟨_, rfl, _, rfl, ix_sq hrow5 hk2 ⟨_, _, rfl, rfl, _, rfl, ?_⟩⟩⟩
        have et := fallR_take ns k (subL ns.length w k) j hj'
        have hfr := fallR_len ns k ((subL ns.length w k).take j)
        have htk : ((subL ns.length w k).take j).length ≤ 12 := by rw [List.length_take]; omega
        by_cases hf : ns.getD (subL ns.length w k)[j] 0 < ns.getD k 0
        · rw [decide_eq_true hf]
          rw [if_pos hf] at et
          refine iteT ⟨_, rfl, _, rfl, by show 2 ≤ sizeLine; decide, fun t ht => ?_⟩
          have ac6 := ac5.same (Same.up (o := .tup [V.int (k : Nat), V.int ((subL ns.length w k)[j] : Nat)]) ht)
          obtain ⟨acc, e1, e2, e3⟩ := ac6.push (x := .ref t) (p := ((k : Int), (((subL ns.length w k)[j] : Nat) : Int))) ⟨t, rfl, upd_same⟩ (by rw [List.length_append]; omega)
          refine ⟨acc, e1, e2, ?_, ?_⟩
          · rw [et, ← List.append_assoc]
            exact e3
          · rw [upd_ne (ne_of ((Same.up ht) _ _ hb5) e1 (by intro z; cases z))]
            exact (Same.up ht) _ _ hb5
        · rw [decide_eq_false hf]
          rw [if_neg hf, List.append_nil] at et
          refine iteF ⟨?_, hb5⟩
          rw [et]
          exact ac5
      · rintro H5 ⟨ac5, _⟩
        rw [vi_len, List.take_length, ← fallN_succ] at ac5
        exact ac5
    · intro H2 ac
      rw [pl_len] at ac
      obtain ⟨xs, e1, e2⟩ := ac.a
      exact q _ D xs (s1.trans ac.s) (s1.free hD) e1 e2

theorem kb_fal (T : Tx K mg A) : ∃ mv : List Value, KBn K A.d_falls ["row", "arms"] 1 ["arms"] (fun us ws => us ++ (mv ++ ws)) (fun vs zs => vs ++ zs) := by
  obtain ⟨mv, h⟩ := T.F_falls.kbinds0 (ps := ["row", "arms"]) 1 ["arms"] [] (fun us mv ws => us ++ (mv ++ ws)) (by simp) (by simp) (fun r1 r2 r3 => r1.append (r2.append r3))
    (fun D doc pm an cdv ct us mv ws h1 h2 h3 => by
      match us, mv, ws, h1, h2, h3 with
      | [a], [], [c], _, _, _ => rfl)
  exact ⟨mv, h⟩
end
end Tw

set_option Elab.async false
set_option linter.all false
set_option maxRecDepth 100000
set_option maxHeartbeats 2000000
namespace Tw
open PySem PySem.Spec PyProof.Rows L2
section
variable {P : Program} {w : World} {K : PySem.W.Frag} {mg : Str → Option Value} {base : Heap} {A : Ad}
open LamX (ExtN Tabs TabS)
/-- a pair as data -/
def prP (p : Int × Int) : PyData := .tuple [.int p.1, .int p.2]
theorem prP_dp (K : PySem.W.Frag) {H : Hp} {v : V} {p : Int × Int} (h : PrAt H v p) : Dp K H v (prP p) := by
  obtain ⟨t, rfl, e⟩ := h
  exact .tup (SqT.of e) (.cons (.int _) (.cons (.int _) .nil))
theorem prPs_dp (K : PySem.W.Frag) {H : Hp} : ∀ {xs : List V} {ps : List (Int × Int)}, PrsAt H xs ps → DpAll K H xs (ps.map prP)
  | _, _, .nil => .nil
  | _, _, .cons a b => .cons (prP_dp K a) (prPs_dp K b)
theorem prPs_lay : ∀ ps : List (Int × Int), PyData.canLayAll0 (ps.map prP) = true
  | [] => rfl
  | p :: ps => by
    rw [List.map_cons, PyData.canLayAll0, prPs_lay ps]
    rfl
theorem prPs_deep : ∀ ps : List (Int × Int), PyData.depthAll (ps.map prP) ≤ 3
  | [] => by simp [PyData.depthAll]
  | p :: ps => by
    have := prPs_deep ps
    have hp : PyData.depth (prP p) ≤ 3 := by simp [prP, PyData.depth, PyData.depthAll]
    simp only [List.map_cons, PyData.depthAll]
    omega
theorem prT_shaped (ps : List (Int × Int)) : SeqAt.shaped (.tuple (ps.map prP)) = true := by
  have := prPs_deep ps
  unfold SeqAt.shaped
  rw [Bool.and_eq_true]
  refine ⟨?_, decide_eq_true ?_⟩
  · simp only [PyData.canLay0]
    exact prPs_lay ps
  · simp only [PyData.depth]
    omega
theorem prPs_all : ∀ ps qs : List (Int × Int), PyData.eqvAll (ps.map prP) (qs.map prP) = decide (ps = qs)
  | [], [] => by simp [PyData.eqvAll]
  | [], q :: qs => by simp [PyData.eqvAll]
  | p :: ps, [] => by simp [PyData.eqvAll]
  | p :: ps, q :: qs => by
    simp only [List.map_cons, PyData.eqvAll, prPs_all ps qs]
    have e : PyData.eqv (prP p) (prP q) = decide (p = q) := by
      have e : PyData.eqv (.tuple [.int p.1, .int p.2]) (.tuple [.int q.1, .int q.2]) = ((p.1 == q.1) && (p.2 == q.2)) := by
        simp [PyData.eqv, PyData.eqvAll]
      unfold prP
      rw [e]
      by_cases h1 : p.1 = q.1
      · by_cases h2 : p.2 = q.2
        · rw [decide_eq_true (Prod.ext h1 h2)]
          simp [h1, h2]
        · rw [decide_eq_false (fun z => h2 (congrArg Prod.snd z))]
          simp [h2]
      · rw [decide_eq_false (fun z => h1 (congrArg Prod.fst z))]
        simp [h1]
    rw [e]
    by_cases h1 : p = q
    · by_cases h2 : ps = qs <;> simp [h1, h2]
    · simp [h1]
theorem prT_eqv (ps qs : List (Int × Int)) : PyData.eqv (.tuple (ps.map prP)) (.tuple (qs.map prP)) = decide (ps = qs) := by
  rw [← prPs_all]
  simp [PyData.eqv]
theorem prT_dp (K : PySem.W.Frag) {H : Hp} {t : Addr} {xs : List V} {ps : List (Int × Int)} (h : H t = some (.tup xs)) (hp : PrsAt H xs ps) : Dp K H (.ref t) (.tuple (ps.map prP)) := .tup (SqT.of h) (prPs_dp K hp)
def spBq (C : Addr) : Sp := fun vs H Q _ => ∃ (p ch lk : Nat) (ks : List Int) (ps : List (Int × Int)) (y : V), vs = [.ref p, y] ∧ BuiltAt C H p ks ps ch lk ∧
  ((∃ (p2 ch2 lk2 : Nat) (ks2 : List Int) (ps2 : List (Int × Int)), y = .ref p2 ∧ BuiltAt C H p2 ks2 ps2 ch2 lk2 ∧ Q (.bl (decide (ks = ks2 ∧ ps = ps2 ∧ ch = ch2 ∧ lk = lk2))) H) ∨ (∃ (t : Addr) (xs : List V), y = .ref t ∧ H t = some (.tup xs) ∧ Q (.bl false) H))
theorem nat_dec (a b : Nat) : decide (V.int (a : Nat) = V.int (b : Nat)) = decide (a = b) := by
  by_cases h : a = b
  · rw [decide_eq_true h, decide_eq_true (by rw [h])]
  · rw [decide_eq_false h, decide_eq_false (fun z => h (by injection z with z; omega))]
theorem ok_bq (T : Tx K mg A) : FnOk P w K mg base CX0 2 A.f_u___eq__ A.d_u___eq__ ["self", "other"] (spBq A.CB) := by
  refine T.F_u___eq__.ok sc_u___eq__ (fun vs H Q E h => ?_) (fun cdv B outer s H vs Q E hr h => ?_)
  · obtain ⟨p, ch, lk, ks, ps, y, rfl, _⟩ := h
    rfl
  · obtain ⟨p, ch, lk, ks, ps, y, rfl, ⟨dx, t1, t2, xs, h1, h2, h3, h4⟩, h⟩ := h
    have hu := hr.units
    refine ⟨_, (pss_one (ps_ret (pe_and (pe_callB call_isi (by rfl) T.g_isinstance (by decide +kernel) (pa_cons (pv 1) (pa_cons (pe_glob (v := .ref A.CB) (by rfl) T.mCB (relR _)) pa_nil))) (pe_and (pe_cmpR (op_eqD hu) (pe_fld (pv 0) rfl) (pe_fld (pv 1) rfl) (nomark _)) (pe_and (pe_cmpR (op_eqD hu) (pe_fld (pv 0) rfl) (pe_fld (pv 1) rfl) (nomark _)) (pe_and (pe_cmpR op_eq (pe_fld (pv 0) rfl) (pe_fld (pv 1) rfl) (nomark _)) (pe_one (pe_cmpR op_eq (pe_fld (pv 0) rfl) (pe_fld (pv 1) rfl) (nomark _))))))))), ?_⟩
    rcases h with ⟨p2, ch2, lk2, ks2, ps2, rfl, ⟨dx2, u1, u2, ys, g1, g2, g3, g4⟩, q⟩ | ⟨t, zs, rfl, ht, q⟩
    · refine ⟨_, rfl, _, _, .ref A.CB, .ref A.CB, true, rfl, .own A.CB, .base (.ins g1 T.cTB T.kaB T.knB T.ktkB T.kmB), (by unfold PySem.W.kitOne; rw [if_pos (by simp)]), true, rfl, iteT ?_⟩
      refine ⟨_, rfl, p, A.CB, dx, _, _, rfl, h1, T.cTB, T.bRow, uf_row _ _ _ _, _, rfl, p2, A.CB, dx2, _, _, rfl, g1, T.cTB, T.bRow, uf_row _ _ _ _, _, _, ints_tup K h2, ints_tup K g2, ints_shT _, ints_shT _, _, rfl, ?_⟩
      rw [ints_eqv]
      by_cases e1 : ks = ks2
      · rw [decide_eq_true e1]
        refine iteT ⟨_, rfl, p, A.CB, dx, _, _, rfl, h1, T.cTB, T.bStops, uf_stops _ _ _ _, _, rfl, p2, A.CB, dx2, _, _, rfl, g1, T.cTB, T.bStops, uf_stops _ _ _ _, _, _, prT_dp K h3 h4, prT_dp K g3 g4, prT_shaped _, prT_shaped _, _, rfl, ?_⟩
        rw [prT_eqv]
        by_cases e2 : ps = ps2
        · rw [decide_eq_true e2]
          refine iteT ⟨_, rfl, p, A.CB, dx, _, _, rfl, h1, T.cTB, T.bChanges, uf_changes _ _ _ _, _, rfl, p2, A.CB, dx2, _, _, rfl, g1, T.cTB, T.bChanges, uf_changes _ _ _ _, rfl, _, rfl, ?_⟩
          rw [nat_dec]
          by_cases e3 : ch = ch2
          · rw [decide_eq_true e3]
            refine iteT ⟨_, rfl, p, A.CB, dx, _, _, rfl, h1, T.cTB, T.bLooks, uf_looks _ _ _ _, _, rfl, p2, A.CB, dx2, _, _, rfl, g1, T.cTB, T.bLooks, uf_looks _ _ _ _, rfl, ?_⟩
            rw [nat_dec]
            have e : decide (ks = ks2 ∧ ps = ps2 ∧ ch = ch2 ∧ lk = lk2) = decide (lk = lk2) := by simp [e1, e2, e3]
            rw [e] at q
            exact q
          · rw [decide_eq_false e3]
            rw [decide_eq_false (show ¬ (ks = ks2 ∧ ps = ps2 ∧ ch = ch2 ∧ lk = lk2) from fun z => e3 z.2.2.1)] at q
            exact iteF q
        · rw [decide_eq_false e2]
          rw [decide_eq_false (show ¬ (ks = ks2 ∧ ps = ps2 ∧ ch = ch2 ∧ lk = lk2) from fun z => e2 z.2.1)] at q
          exact iteF q
      · rw [decide_eq_false e1]
        rw [decide_eq_false (show ¬ (ks = ks2 ∧ ps = ps2 ∧ ch = ch2 ∧ lk = lk2) from fun z => e1 z.1)] at q
        exact iteF q
    · exact ⟨_, rfl, _, _, .type "tuple", .ref A.CB, false, rfl, .own A.CB, .base (.tup ht), T.kiB_tuple, false, rfl, iteF q⟩
/-! build -/
theorem last_wz {l : List Nat} (h : l ≠ []) : atI ((wz l).map V.int) (-1) = some (V.int ((lastW l : Nat) : Int)) := by
  obtain ⟨i, y, rfl⟩ : ∃ i y, l = i ++ [y] := ⟨l.dropLast, l.getLast h, (List.dropLast_concat_getLast h).symm⟩
  have e : (wz (i ++ [y])).map V.int = (wz i).map V.int ++ [V.int (y : Nat)] := by unfold wz; rw [List.map_append, List.map_append]; rfl
  have e2 : lastW (i ++ [y]) = y := by unfold lastW; simp
  rw [e, e2]
  exact last_at
theorem pl_at {n i : Nat} {x : V} (h : (pl n)[i]? = some x) : i < n ∧ x = V.int (i : Nat) := by
  unfold pl at h
  rw [List.getElem?_map] at h
  by_cases hi : i < n
  · rw [List.getElem?_range hi] at h
    exact ⟨hi, (Option.some.inj h).symm⟩
  · rw [List.getElem?_eq_none (by rw [List.length_range]; omega)] at h
    cases h
def spBuild (A : Ad) : Sp := fun vs H Q _ => ∃ (r w : Nat) (ks : List Int), vs = [.ref r, .int w] ∧ (1 ≤ w ∧ w ≤ 4) ∧ RowIn H r ks ∧ Tabs (TT A) H ∧
  ∀ (H' : Hp) (q : Addr), ExtN H H' → Tabs (TT A) H' → BuiltAt A.CB H' q (bld ks.length w ks ks.length).1 (bld ks.length w ks ks.length).2.1 (bld ks.length w ks ks.length).2.2.1 (bld ks.length w ks ks.length).2.2.2 → Q (.ref q) H'
theorem ok_build (T : Tx K mg A) (TB : LamX.TabB base mg A.c_least_child A.P_least_child) : FnOk P w K mg base CX0 8 A.f_build A.d_build ["row", "arms"] (spBuild A) := by
  obtain ⟨mo, ko⟩ := kb_of T
  obtain ⟨md, kd⟩ := kb_down T
  refine T.F_build.ok sc_build (fun vs H Q E h => ?_) (fun cdv B outer s H vs Q E hr h => ?_)
  · obtain ⟨r, w, ks, rfl, _⟩ := h
    rfl
  · obtain ⟨r, w, ks, rfl, hw, hrow, hT, q⟩ := h
    have nd := sc_build.nd
    refine ⟨_, PSs.nox (pss_cons (ps_set (i := 2) nd rfl (Or.inl rfl) (pe_cmethK (pe_glob (v := .ref A.C) (by rfl) T.mC (relR _)) T.cr T.cof (ok_of T) (hr.mono (by decide)) ko pass0 (pa_cons (pv 0) pa_nil) (pk_cons (pv 1) pk_nil)))
      (C8.pss_cut (ps_set (i := 3) nd rfl (Or.inl rfl) (pe_callTy call_tuple_of (by rfl) T.g_tuple (by decide +kernel) (pa_cons (pv 0) pa_nil)))
      (pss_cons (ps_set (i := 4) nd rfl (Or.inl rfl) (pe_lst pa_nil))
      (pss_cons (ps_set (i := 5) nd rfl (Or.inl rfl) pe_int)
      (pss_cons (ps_set (i := 6) nd rfl (Or.inl rfl) pe_int)
      (C8.pss_cut (ps_for PassesOwn.never rfl (pi_reversed (by rfl) T.g_reversed (pa_cons (pe_callTy (call_listO T.D_t___iter__ (ok_iter T) (b_iter T) T.D_t___len__ (ok_len T) (b_len T) (hr.mono (by decide))) (by rfl) T.g_list (by decide +kernel) (pa_cons (pv 2) pa_nil)) pa_nil)) (pg_name (i := 7) nd rfl (Or.inl rfl)) (pss_one (ps_if (pt_truth (pe_gi T.D_t___getitem__ (ok_gi T) (hr.mono (by decide)) (b_gi T) pass0 (pv 2) (pv 7)) (fun _ => rfl)) (pss_cons (ps_set (i := 8) nd rfl (Or.inl rfl) (pe_callN (ok_down T TB) (hr.mono (by decide)) (by rfl) T.m_sift_down T.F_sift_down.kp kd pass0 (pa_cons (pv 3) (pa_cons (pv 7) pa_nil)) (pk_cons (pv 1) pk_nil)))
      (pss_cons (ps_set (i := 3) nd rfl (Or.inl rfl) (pe_fld (pv 8) rfl))
      (pss_cons (ps_expr (pe_bm PySem.F.plainAttrs_list PySem.F.slot_list_append PySem.F.type_list_append mt_append (pv 4) (pa_cons (pe_tup (pa_cons (pv 7) (pa_cons (pe_ix (r := rIx K) ix_seq (pe_fld (pv 8) rfl) (pe_un un_neg pe_int) (fun _ _ => rfl)) pa_nil))) pa_nil)))
      (pss_cons (ps_aug (i := 5) nd rfl (Or.inl rfl) (pe_op op_sub (pe_callB call_len_seq (by rfl) T.g_len PySem.boot_len (pa_cons (pe_fld (pv 8) rfl) pa_nil)) pe_int) ip_add)
      (pss_one (ps_aug (i := 6) nd rfl (Or.inl rfl) (pe_fld (pv 8) rfl) ip_add)))))) pss_nil)))
      (pss_one (ps_ret (pe_make T.mkCB (ok_bi T) (hr.mono (by decide)) (by rfl) T.mCB (b_bi T) .nil pass0 (pa_cons (pv 3) (pa_cons (pv 4) (pa_cons (pv 5) (pa_cons (pv 6) pa_nil))))))))))))), ?_⟩
    refine ⟨rfl, _, rfl, _, rfl, rfl, rfl, r, w, ks, rfl, hw, hrow.1, hrow.2.1, hrow.2.2, fun H1 tr s1 p0 t1 => ?_⟩
    have hk12 := hrow.2.1
    have hkb := hrow.2.2
    generalize en : ks.length = n at *
    refine ⟨fun σ' H' => ∃ hp : Addr, σ' = [some (.ref r), some (.int w), some (.ref tr), some (.ref hp), none, none, none, none, none] ∧ Same H1 H' ∧ H' hp = some (.tup (ks.map V.int)), ?_, ?_⟩
    · rcases hrow.1.same s1 with h | h
      · exact ⟨_, rfl, r, _, rfl, .inl ⟨SqL.of h, fun t ht => ⟨t, rfl, Same.up ht, upd_same⟩⟩⟩
      · exact ⟨_, rfl, r, _, rfl, .inr ⟨SqT.of h, r, rfl, Same.refl _, h⟩⟩
    rintro σ' H2 ⟨hp, rfl, s2, e2⟩
    refine ⟨Nat.zero_le _, fun D nD => ?_⟩
    have s3 : Same H2 (upd H2 D (.lst [])) := Same.up nD
    have s13 : Same H (upd H2 D (.lst [])) := s1.trans (s2.trans s3)
    have tt3 := t1.same (s2.trans s3)
    refine ⟨fun σ' H' => ∃ (hp : Addr) (x7 x8 : Option V) (xs : List V), σ' = [some (.ref r), some (.int w), some (.ref tr), some (.ref hp), some (.ref D), some (.int ((bld n w ks n).2.2.1 : Nat)), some (.int ((bld n w ks n).2.2.2 : Nat)), x7, x8] ∧ ExtN H2 H' ∧ Tabs (TT A) H' ∧ H' hp = some (.tup ((bld n w ks n).1.map V.int)) ∧ H' D = some (.lst xs) ∧ PrsAt H' xs (bld n w ks n).2.1, ?_, ?_⟩
    · obtain ⟨dx, l, h1, h2⟩ := tt3.ob
      refine ⟨_, rfl, tr, dx, _, l, pl n, rfl, h1, tf_pl _ _ _, SqT.of h2, by rw [pl_len]; omega, ⟨tr, n, w, rfl, tt3, n, rfl, by omega, rfl⟩, fun c nc => ?_⟩
      have nDc : D ≠ c := ne_of_none (upd_same (H := H2) (a := D)) nc
      have two0 : TwoE (TT A) H2 D c [] (pl n) (upd (upd H2 D (.lst [])) c (.lst (pl n))) :=
        ⟨extN_of (s3.trans (Same.up nc)), ((hT.ext s13).ext (Same.up nc)), (Same.up nc) _ _ upd_same, upd_same, nD, s3.free nc, nDc⟩
      have e24 := (s3.trans (Same.up (o := .lst (pl n)) nc)) _ _ e2
      have tt4 := tt3.same (Same.up (o := .lst (pl n)) nc)
      generalize upd (upd H2 D (.lst [])) c (.lst (pl n)) = H4 at two0 e24 tt4
      refine ⟨c, _, rfl, SqL.of two0.w, RT.for_Itv (fun i σ' H' => ∃ (hp : Addr) (x7 x8 : Option V) (xs : List V), σ' = [some (.ref r), some (.int w), some (.ref tr), some (.ref hp), some (.ref D), some (.int ((bld n w ks i).2.2.1 : Nat)), some (.int ((bld n w ks i).2.2.2 : Nat)), x7, x8] ∧
        TwoE (TT A) H2 D c xs (pl n) H' ∧ TreeAt A.C H' tr n w ∧ H' hp = some (.tup ((bld n w ks i).1.map V.int)) ∧ PrsAt H' xs (bld n w ks i).2.1 ∧ i ≤ n) ?_ ?_ ?_ ?_⟩
      · exact ⟨hp, none, none, [], rfl, two0, tt4, e24, .nil, Nat.zero_le _⟩
      · rintro i σ' H' ⟨_, _, _, _, _, two, _⟩
        exact SqL.of two.w
      · rintro i x σ' H' hi hx ⟨hp, x7, x8, xs, rfl, two, tt, ehp, hps, hi2⟩
        rw [pl_len] at hi hx
        obtain ⟨_, rfl⟩ := pl_at hx
        have hpn : n - 1 - i < n := by omega
        obtain ⟨dx, l, h1, h2⟩ := tt.ob
        refine ⟨_, rfl, _, rfl, tr, dx, _, rfl, h1, tr, n, w, n - 1 - i, rfl, tt, hpn, fun H5 ch s5 hch => ?_⟩
        rw [kids_eq, kids_same n (by omega) w (by omega) (n - 1 - i) hpn hw.1] at hch
        refine ⟨!(vi (kidL n w (n - 1 - i))).isEmpty, .inr (.inl ⟨_, SqT.of hch, rfl⟩), ?_⟩
        have two5 := two.same s5
        have ehp5 := s5 _ _ ehp
        have hps5 := hps.same s5
        have tt5 := tt.same s5
        by_cases h0 : kidL n w (n - 1 - i) = []
        · have eb : bld n w ks (i + 1) = bld n w ks i := by rw [bld, bstep, if_pos h0]
          rw [h0]
          refine iteF ?_
          rw [eb]
          exact ⟨hp, _, _, xs, rfl, two5, tt5, ehp5, hps5, by omega⟩
        · have e0 : (!(vi (kidL n w (n - 1 - i))).isEmpty) = true := by
            cases e : kidL n w (n - 1 - i) with
            | nil => exact absurd e h0
            | cons a b => rfl
          rw [e0]
          have hl := (bld_len n w ks i).trans en
          have hperm := bld_perm hw.1 en i (by omega)
          have eb : bld n w ks (i + 1) = ((goDown n w 20 (bld n w ks i).1 (n - 1 - i) [n - 1 - i] 0).1, (bld n w ks i).2.1 ++ [(((n - 1 - i : Nat) : Int), ((lastW (goDown n w 20 (bld n w ks i).1 (n - 1 - i) [n - 1 - i] 0).2.1 : Nat) : Int))], (bld n w ks i).2.2.1 + ((goDown n w 20 (bld n w ks i).1 (n - 1 - i) [n - 1 - i] 0).2.1.length - 1), (bld n w ks i).2.2.2 + (goDown n w 20 (bld n w ks i).1 (n - 1 - i) [n - 1 - i] 0).2.2) := by rw [bld, bstep, if_neg h0]
          have hst := bld_stops n w ks i
          generalize bld n w ks i = st at *
          generalize er : goDown n w 20 st.1 (n - 1 - i) [n - 1 - i] 0 = res at *
          have hwne : res.2.1 ≠ [] := er ▸ down_way n w 20 st.1 (n - 1 - i) [n - 1 - i] 0 (by simp)
          have hwl : res.2.1.length ≤ 21 := by
            have := down_ways n w 20 st.1 (n - 1 - i) [n - 1 - i] 0
            rw [er, List.length_singleton] at this
            omega
          refine iteT ⟨_, rfl, _, rfl, _, rfl, rfl, rfl, hp, n - 1 - i, w, st.1, rfl, hw, ⟨.inr ehp5, by omega, fun z hz => hkb z (hperm.mem_iff.mp hz)⟩, by omega, two5.t, fun H6 z e6 t6 rz => ?_⟩
          rw [hl, er] at rz
          have two6 := two5.ext e6 t6
          have hps6 := hps5.ext e6
          have tt6 := tt5.ext e6
          obtain ⟨dz, z1, z2, g1, g2, g3⟩ := rz
          refine ⟨_, rfl, z, A.CS, dz, _, _, rfl, g1, T.cTS, T.nRow, zf_row _ _ _, ?_⟩
          refine ⟨_, rfl, .inl ⟨rfl, _, SqL.of two6.d⟩, _, rfl, _, rfl, z, A.CS, dz, _, _, rfl, g1, T.cTS, T.nWay, zf_way _ _ _, _, rfl, .inr (.inl ⟨z2, _, _, _, rfl, rfl, SqT.of g3, last_wz hwne, by show 2 ≤ sizeLine; decide, fun t nt => ?_⟩)⟩
          have s7 : Same H6 (upd H6 t (.tup [V.int ((n - 1 - i : Nat) : Int), V.int ((lastW res.2.1 : Nat) : Int)])) := Same.up nt
          have et : upd H6 t (.tup [V.int ((n - 1 - i : Nat) : Int), V.int ((lastW res.2.1 : Nat) : Int)]) t = some (.tup [V.int ((n - 1 - i : Nat) : Int), V.int ((lastW res.2.1 : Nat) : Int)]) := upd_same
          generalize upd H6 t (.tup [V.int ((n - 1 - i : Nat) : Int), V.int ((lastW res.2.1 : Nat) : Int)]) = H7 at s7 et
          have two7 := two6.same s7
          have hps7 := (hps6.same s7).push (x := .ref t) (p := (((n - 1 - i : Nat) : Int), ((lastW res.2.1 : Nat) : Int))) ⟨t, rfl, et⟩
          have xl : xs.length = st.2.1.length := Paired.length hps
          refine ⟨D, _, _, rfl, rfl, two7.d, small1000 (by omega), ?_⟩
          have two8 : TwoE (TT A) H2 D c (xs ++ [.ref t]) (pl n) (upd H7 D (.lst (xs ++ [.ref t]))) := two7.setD
          have hps8 := PrsAt.put (o := .lst (xs ++ [.ref t])) two7.d hps7
          have sz : ∀ b o, H6 b = some o → (∀ ys, o ≠ .lst ys) → upd H7 D (.lst (xs ++ [.ref t])) b = some o := fun b o e nl => by
            rw [upd_ne (fun y => by rw [y, two6.d] at e; exact nl _ (Option.some.inj e).symm)]
            exact s7 _ _ e
          have tt8 : TreeAt A.C (upd H7 D (.lst (xs ++ [.ref t]))) tr n w := ⟨let ⟨dx, l, a, b⟩ := tt6.ob; ⟨dx, l, sz _ _ a (fun _ y => nomatch y), sz _ _ b (fun _ y => nomatch y)⟩, tt6.hn, tt6.hw⟩
          have g18 := sz _ _ g1 (fun _ y => nomatch y)
          have g28 := sz _ _ g2 (fun _ y => nomatch y)
          have g38 := sz _ _ g3 (fun _ y => nomatch y)
          generalize upd H7 D (.lst (xs ++ [.ref t])) = H8 at *
          refine ⟨_, rfl, _, rfl, z, A.CS, dz, _, _, rfl, g18, T.cTS, T.nWay, zf_way _ _ _, z2, _, rfl, .inr (SqT.of g38), _, _, rfl, rfl, _, _, rfl, rfl, ?_⟩
          refine ⟨_, rfl, _, rfl, z, A.CS, dz, _, _, rfl, g18, T.cTS, T.nLooks, zf_looks _ _ _, _, _, rfl, rfl, ?_⟩
          rw [eb]
          refine ⟨z1, some (V.int ((n - 1 - i : Nat) : Int)), some (.ref z), xs ++ [.ref t], ?_, two8, tt8, g28, hps8, by omega⟩
          have lw : ((wz res.2.1).map V.int).length = res.2.1.length := by unfold wz; rw [List.length_map, List.length_map]
          have hpos := List.length_pos_iff.mpr hwne
          rw [lw]
          show ([some (.ref r), some (.int w), some (.ref tr), some (.ref z1), some (.ref D), some (V.int ((st.2.2.1 : Int) + ((res.2.1.length : Int) - 1))), some (V.int ((st.2.2.2 : Int) + (res.2.2 : Int))), some (V.int ((n - 1 - i : Nat) : Int)), some (.ref z)] : List (Option V)) = _
          rw [show (st.2.2.1 : Int) + ((res.2.1.length : Int) - 1) = ((st.2.2.1 + (res.2.1.length - 1) : Nat) : Int) by omega, show (st.2.2.2 : Int) + (res.2.2 : Int) = ((st.2.2.2 + res.2.2 : Nat) : Int) by omega]
      · rintro σ' H' ⟨hp, x7, x8, xs, rfl, two, tt, ehp, hps, _⟩
        rw [pl_len] at *
        exact ⟨hp, x7, x8, xs, rfl, two.e, two.t, ehp, two.d, hps⟩
    · rintro σ' H' ⟨hp, x7, x8, xs, rfl, e', t', ehp, hD, hps⟩
      have hst := bld_stops n w ks n
      refine ⟨_, rfl, _, rfl, _, rfl, _, rfl, fun x dx2 nx ndx nex => ?_⟩
      have s5 := new_up (C := A.CB) nx ndx nex
      refine ⟨x, dx2, hp, D, _, _, _, xs, _, rfl, upd_same, .inr (s5 _ _ ehp), .inl (s5 _ _ hD), hps.same s5, by omega, fun H6 k6 st => ⟨rfl, q H6 x ?_ ?_ st⟩⟩
      · exact (extN_of (s1.trans s2)).trans (e'.trans (extN_of (new_same nx ndx k6)))
      · exact t'.ext (new_same nx ndx k6)
theorem kb_build (T : Tx K mg A) : ∃ mv : List Value, KBn K A.d_build ["row", "arms"] 1 ["arms"] (fun us ws => us ++ (mv ++ ws)) (fun vs zs => vs ++ zs) := by
  obtain ⟨mv, h⟩ := T.F_build.kbinds0 (ps := ["row", "arms"]) 1 ["arms"] [] (fun us mv ws => us ++ (mv ++ ws)) (by simp) (by simp) (fun r1 r2 r3 => r1.append (r2.append r3))
    (fun D doc pm an cdv ct us mv ws h1 h2 h3 => by
      match us, mv, ws, h1, h2, h3 with
      | [a], [], [c], _, _, _ => rfl)
  exact ⟨mv, h⟩
theorem bd_build (T : Tx K mg A) : ∃ ds, Vals [V.int 2] ds ∧ L2.Binds K A.d_build ["row", "arms"] ds := by
  refine T.F_build.binds0 1 (by simp) rfl (fun D doc pm an cdv ct us ks h1 h2 => ?_)
  match us, ks, h1, h2 with
  | [a], [c], _, _ => exact ⟨_, _, _, _, _, _, rfl, rfl, rfl⟩

theorem sorted_one {xs ys : List Int} (hp : xs.Perm ys) (h1 : xs.Pairwise (· ≤ ·)) (h2 : ys.Pairwise (· ≤ ·)) : xs = ys := List.Perm.eq_of_pairwise (fun x y _ _ h1 h2 => Int.le_antisymm h1 h2) h1 h2 hp
theorem bq_of {C : Addr} {H : Hp} {p p2 ch lk ch2 lk2 : Nat} {ks ks2 : List Int} {ps ps2 : List (Int × Int)} {Q : VK} {E : XK} {b : Bool} (h1 : BuiltAt C H p ks ps ch lk) (h2 : BuiltAt C H p2 ks2 ps2 ch2 lk2) (hb : decide (ks = ks2 ∧ ps = ps2 ∧ ch = ch2 ∧ lk = lk2) = b) (q : Q (.bl b) H) : spBq C [.ref p, .ref p2] H Q E :=
  ⟨p, ch, lk, ks, ps, .ref p2, rfl, h1, .inl ⟨p2, ch2, lk2, ks2, ps2, rfl, h2, by rw [hb]; exact q⟩⟩
theorem built_ins {C : Addr} {H : Hp} {p ch lk : Nat} {ks : List Int} {ps : List (Int × Int)} (h : BuiltAt C H p ks ps ch lk) : ∃ dx fs, H p = some (.ins C dx fs) := let ⟨dx, t1, t2, xs, a, _, _, _⟩ := h; ⟨dx, _, a⟩
theorem ints_deep : ∀ ks : List Int, PyData.depthAll (ks.map PyData.int) ≤ 1
  | [] => by simp [PyData.depthAll]
  | k :: ks => by
    have := ints_deep ks
    simp only [List.map_cons, PyData.depthAll, PyData.depth]
    omega
theorem ints_lay : ∀ ks : List Int, PyData.canLayAll0 (ks.map PyData.int) = true
  | [] => rfl
  | k :: ks => by
    rw [List.map_cons, PyData.canLayAll0, ints_lay ks]
    rfl
end
end Tw

set_option Elab.async false
set_option linter.all false
set_option maxRecDepth 100000
set_option maxHeartbeats 2000000
namespace Tw
open PySem PySem.Spec PyProof.Rows L2
section
variable {P : Program} {w : World} {K : PySem.W.Frag} {mg : Str → Option Value} {base : Heap} {A : Ad}
open LamX (ExtN Tabs TabS)
def spCk : Sp := fun vs H Q _ => ∃ i : Int, vs = [.int i] ∧ (-1000000000 ≤ i ∧ i ≤ 1000000000) ∧ Q .non H
theorem ok_ck (T : Tx K mg A) : FnOk P w K mg base CX0 4 A.f_check_key A.d_check_key ["key"] spCk := by
  refine T.F_check_key.ok sc_check_key (fun vs H Q E h => ?_) (fun cdv B outer s H vs Q E hr h => ?_)
  · obtain ⟨i, rfl, _⟩ := h
    rfl
  · obtain ⟨i, rfl, hi, q⟩ := h
    refine ⟨_, (pss_one (ps_if (pt_not (pt_val (pe_call (ok_key T) (hr.mono (by decide)) (by rfl) T.m_is_key T.F_is_key.kp (b_key T) .nil pass0 (pa_cons (pv 0) pa_nil)))) (pss_one ps_never) pss_nil)), ?_⟩
    refine ⟨_, rfl, i, rfl, _, rfl, ?_⟩
    rw [decide_eq_true hi]
    exact iteF q
theorem b_ck (T : Tx K mg A) : L2.Binds K A.d_check_key ["key"] [] := T.F_check_key.binds fun _ _ _ _ _ _ us hl => match us, hl with | [_], _ => rfl
def spHp : Sp := fun vs H Q _ => ∃ (r w : Nat) (ks : List Int), vs = [.ref r, .int w] ∧ (1 ≤ w ∧ w ≤ 4) ∧ RowIn H r ks ∧ faultL ks w = [] ∧ ∀ H' q, Same H H' → H' q = some (.tup (ks.map V.int)) → Q (.ref q) H'
theorem ok_hp (T : Tx K mg A) : FnOk P w K mg base CX0 8 A.f_heap_of A.d_heap_of ["row", "arms"] spHp := by
  obtain ⟨mf, kf⟩ := kb_fau T
  refine T.F_heap_of.ok sc_heap_of (fun vs H Q E h => ?_) (fun cdv B outer s H vs Q E hr h => ?_)
  · obtain ⟨r, w, ks, rfl, _⟩ := h
    rfl
  · obtain ⟨r, w, ks, rfl, hw, hrow, hf, q⟩ := h
    have nd := sc_heap_of.nd
    refine ⟨_, PSs.nox (pss_cons (ps_set (i := 2) nd rfl (Or.inl rfl) (pe_callN (ok_fau T) (hr.mono (by decide)) (by rfl) T.m_faults T.F_faults.kp kf pass0 (pa_cons (pv 0) pa_nil) (pk_cons (pv 1) pk_nil)))
      (pss_cons (ps_if (pt_truth (pv 2) (fun _ => rfl)) (pss_one ps_never) pss_nil)
      (pss_one (ps_ret (pe_callTy (r := rTupOf K) call_tupK (by rfl) T.g_tuple (by decide +kernel) (pa_cons (pv 0) pa_nil)))))), ?_⟩
    refine ⟨_, rfl, _, rfl, rfl, rfl, r, w, ks, rfl, hw, hrow, fun H1 d s1 d0 hd => ?_⟩
    refine ⟨_, rfl, !(vi (faultL ks w)).isEmpty, .inl ⟨_, SqL.of hd, rfl⟩, ?_⟩
    rw [hf]
    refine iteF ?_
    rcases hrow.1.same s1 with h | h
    · exact ⟨_, rfl, r, _, rfl, .inl ⟨SqL.of h, fun t nt => q _ t (s1.trans (Same.up nt)) upd_same⟩⟩
    · exact ⟨_, rfl, r, _, rfl, .inr ⟨SqT.of h, q _ r s1 h⟩⟩
theorem b_hp (T : Tx K mg A) : L2.Binds K A.d_heap_of ["row", "arms"] [] := T.F_heap_of.binds fun _ _ _ _ _ _ us hl => match us, hl with | [_, _], _ => rfl
def spCf : Sp := fun vs H Q _ => ∃ (t : Nat) (xs : List V), vs = [.ref t] ∧ H t = some (.tup xs) ∧ xs ≠ [] ∧ Q .non H
theorem ok_cf (T : Tx K mg A) : FnOk P w K mg base CX0 2 A.f_check_filled A.d_check_filled ["heap"] spCf := by
  refine T.F_check_filled.ok sc_check_filled (fun vs H Q E h => ?_) (fun cdv B outer s H vs Q E hr h => ?_)
  · obtain ⟨t, xs, rfl, _⟩ := h
    rfl
  · obtain ⟨t, xs, rfl, ht, hn, q⟩ := h
    refine ⟨_, (pss_one (ps_if (pt_not (pt_truth (pv 0) (fun _ => rfl))) (pss_one ps_never) pss_nil)), ?_⟩
    refine ⟨_, rfl, !xs.isEmpty, .inr (.inl ⟨_, SqT.of ht, rfl⟩), ?_⟩
    cases xs with
    | nil => exact absurd rfl hn
    | cons a b => exact iteF q
theorem b_cf (T : Tx K mg A) : L2.Binds K A.d_check_filled ["heap"] [] := T.F_check_filled.binds fun _ _ _ _ _ _ us hl => match us, hl with | [_], _ => rfl
def spFh : Sp := fun vs H Q _ => ∃ (r w : Nat) (ks : List Int), vs = [.ref r, .int w] ∧ (1 ≤ w ∧ w ≤ 4) ∧ RowIn H r ks ∧ faultL ks w = [] ∧ ks ≠ [] ∧ ∀ H' q, Same H H' → H' q = some (.tup (ks.map V.int)) → Q (.ref q) H'
theorem ok_fh (T : Tx K mg A) : FnOk P w K mg base CX0 9 A.f_filled_heap_of A.d_filled_heap_of ["row", "arms"] spFh := by
  refine T.F_filled_heap_of.ok sc_filled_heap_of (fun vs H Q E h => ?_) (fun cdv B outer s H vs Q E hr h => ?_)
  · obtain ⟨r, w, ks, rfl, _⟩ := h
    rfl
  · obtain ⟨r, w, ks, rfl, hw, hrow, hf, hn, q⟩ := h
    have nd := sc_filled_heap_of.nd
    refine ⟨_, (pss_cons (ps_set (i := 2) nd rfl (Or.inl rfl) (pe_call (ok_hp T) (hr.mono (by decide)) (by rfl) T.m_heap_of T.F_heap_of.kp (b_hp T) .nil pass0 (pa_cons (pv 0) (pa_cons (pv 1) pa_nil))))
      (pss_cons (ps_expr (pe_call (ok_cf T) (hr.mono (by decide)) (by rfl) T.m_check_filled T.F_check_filled.kp (b_cf T) .nil pass0 (pa_cons (pv 2) pa_nil)))
      (pss_one (ps_ret (pv 2))))), ?_⟩
    refine ⟨_, rfl, _, rfl, r, w, ks, rfl, hw, hrow, hf, fun H1 t s1 e1 => ?_⟩
    exact ⟨_, rfl, t, _, rfl, e1, fun z => hn (List.map_eq_nil_iff.mp z), _, rfl, q H1 t s1 e1⟩
theorem b_fh (T : Tx K mg A) : L2.Binds K A.d_filled_heap_of ["row", "arms"] [] := T.F_filled_heap_of.binds fun _ _ _ _ _ _ us hl => match us, hl with | [_, _], _ => rfl
def spPush (A : Ad) : Sp := fun vs H Q _ => ∃ (r w : Nat) (k : Int) (ks : List Int), vs = [.ref r, .int k, .int w] ∧ (1 ≤ w ∧ w ≤ 4) ∧ RowIn H r ks ∧ faultL ks w = [] ∧ (-1000000000 ≤ k ∧ k ≤ 1000000000) ∧ ks.length < 12 ∧
  ∀ (H' : Hp) (q : Addr), Same H H' → resSift A.CS H' q (goUp w 20 (ks ++ [k]) ks.length [ks.length] 0) → Q (.ref q) H'
theorem ok_push (T : Tx K mg A) : FnOk P w K mg base CX0 9 A.f_push A.d_push ["row", "key", "arms"] (spPush A) := by
  obtain ⟨mu, ku⟩ := kb_up T
  refine T.F_push.ok sc_push (fun vs H Q E h => ?_) (fun cdv B outer s H vs Q E hr h => ?_)
  · obtain ⟨r, w, k, ks, rfl, _⟩ := h
    rfl
  · obtain ⟨r, w, k, ks, rfl, hw, hrow, hf, hk, hlt, q⟩ := h
    have nd := sc_push.nd
    obtain ⟨t12, hg⟩ := cst T.c_MOST_PLACES
    refine ⟨_, PSs.nox (pss_cons (ps_set (i := 3) nd rfl (Or.inl rfl) (pe_call (ok_hp T) (hr.mono (by decide)) (by rfl) T.m_heap_of T.F_heap_of.kp (b_hp T) .nil pass0 (pa_cons (pv 0) (pa_cons (pv 2) pa_nil))))
      (pss_cons (ps_expr (pe_call (ok_ck T) (hr.mono (by decide)) (by rfl) T.m_check_key T.F_check_key.kp (b_ck T) .nil pass0 (pa_cons (pv 1) pa_nil)))
      (pss_cons (ps_if (pt_cmpR op_eq (pe_callB call_len_seq (by rfl) T.g_len PySem.boot_len (pa_cons (pv 3) pa_nil)) (pe_glob (by rfl) hg (relI _ _)) (nomark _)) (pss_one ps_never) pss_nil)
      (pss_one (ps_ret (pe_callN (ok_up T) (hr.mono (by decide)) (by rfl) T.m_sift_up T.F_sift_up.kp ku pass0 (pa_cons (pe_op op_catA (pv 3) (pe_tup (pa_cons (pv 1) pa_nil))) (pa_cons (pe_callB call_len_seq (by rfl) T.g_len PySem.boot_len (pa_cons (pv 3) pa_nil)) pa_nil)) (pk_cons (pv 2) pk_nil))))))), ?_⟩
    refine ⟨_, rfl, _, rfl, r, w, ks, rfl, hw, hrow, hf, fun H1 t s1 e1 => ?_⟩
    refine ⟨_, rfl, k, rfl, hk, ?_⟩
    refine ⟨_, rfl, t, _, rfl, .inr (SqT.of e1), rfl, _, rfl, ?_⟩
    rw [decide_eq_false (show ¬ V.int ((ks.map V.int).length : Nat) = V.int 12 by rw [List.length_map]; intro z; injection z with z; omega)]
    refine iteF ?_
    refine ⟨_, rfl, _, rfl, by show 1 ≤ sizeLine; decide, fun u nu => ?_⟩
    have su := Same.up (o := .tup [V.int k]) nu
    refine ⟨t, u, _, _, rfl, rfl, SqT.of (su _ _ e1), SqT.of upd_same, Nat.le_of_lt (small1000 (by rw [List.length_map, List.length_singleton]; omega)), fun hn => ?_, fun _ z => (nomatch z), fun hn _ c nc => ?_⟩
    · have e0 : ks = [] := List.map_eq_nil_iff.mp hn
      obtain ⟨c, rfl⟩ : ∃ c, c = u := ⟨u, rfl⟩
      have s2 := su
      have ec : upd H1 c (.tup [V.int k]) c = some (.tup ((ks ++ [k]).map V.int)) := by rw [e0]; exact upd_same
      clear su
      generalize upd H1 c (.tup [V.int k]) = H2 at s2 ec
      refine ⟨_, rfl, t, _, rfl, .inr (SqT.of (s2 _ _ e1)), _, rfl, rfl, rfl, c, ks.length, w, ks ++ [k], by rw [List.length_map]; rfl, hw, ⟨.inr ec, by rw [List.length_append, List.length_singleton]; omega, ?_⟩, by rw [List.length_append, List.length_singleton]; omega, fun H3 u s3 ru => q H3 u (s1.trans (s2.trans s3)) ru⟩
      intro z hz
      rcases List.mem_append.mp hz with y | y
      · exact hrow.2.2 z y
      · rw [List.mem_singleton.mp y]
        exact hk
    · rw [map_one]
      have s2 := su.trans (Same.up (o := .tup ((ks ++ [k]).map V.int)) nc)
      have ec : upd (upd H1 u (.tup [V.int k])) c (.tup ((ks ++ [k]).map V.int)) c = some (.tup ((ks ++ [k]).map V.int)) := upd_same
      generalize upd (upd H1 u (.tup [V.int k])) c (.tup ((ks ++ [k]).map V.int)) = H2 at s2 ec
      refine ⟨_, rfl, t, _, rfl, .inr (SqT.of (s2 _ _ e1)), _, rfl, rfl, rfl, c, ks.length, w, ks ++ [k], by rw [List.length_map]; rfl, hw, ⟨.inr ec, by rw [List.length_append, List.length_singleton]; omega, ?_⟩, by rw [List.length_append, List.length_singleton]; omega, fun H3 u s3 ru => q H3 u (s1.trans (s2.trans s3)) ru⟩
      intro z hz
      rcases List.mem_append.mp hz with y | y
      · exact hrow.2.2 z y
      · rw [List.mem_singleton.mp y]
        exact hk
theorem kb_push (T : Tx K mg A) : ∃ mv : List Value, KBn K A.d_push ["row", "key", "arms"] 2 ["arms"] (fun us ws => us ++ (mv ++ ws)) (fun vs zs => vs ++ zs) := by
  obtain ⟨mv, h⟩ := T.F_push.kbinds0 (ps := ["row", "key", "arms"]) 2 ["arms"] [] (fun us mv ws => us ++ (mv ++ ws)) (by simp) (by simp) (fun r1 r2 r3 => r1.append (r2.append r3))
    (fun D doc pm an cdv ct us mv ws h1 h2 h3 => by
      match us, mv, ws, h1, h2, h3 with
      | [a, b], [], [c], _, _, _ => rfl)
  exact ⟨mv, h⟩

end
end Tw

set_option Elab.async false
set_option linter.all false
set_option maxRecDepth 100000
set_option maxHeartbeats 2000000
namespace Tw
open PySem PySem.Spec PyProof.Rows L2
section
variable {P : Program} {w : World} {K : PySem.W.Frag} {mg : Str → Option Value} {base : Heap} {A : Ad}
open LamX (ExtN Tabs TabS)
/-- the last key ahead of the ones between -/
def outRow (ks : List Int) : List Int := (ks.getD (ks.length - 1) 0) :: (ks.drop 1).take (ks.length - 2)
def takeR (ks : List Int) (w : Nat) : List Int × List Nat × Nat := if ks.length = 1 then ([], [], 0) else goDown (ks.length - 1) w 20 (outRow ks) 0 [0] 0
theorem outRow_len {ks : List Int} (h : 2 ≤ ks.length) : (outRow ks).length = ks.length - 1 := by
  unfold outRow
  rw [List.length_cons, List.length_take, List.length_drop]
  omega
theorem cut_end (ks : List Int) (h : 2 ≤ ks.length) : cutV (ks.map V.int) (some (-1)) none = [ks.getD (ks.length - 1) 0].map V.int ∧ ¬ (HT.sIx (ks.map V.int).length 0 (some (-1)) = 0 ∧ HT.sIx (ks.map V.int).length (ks.map V.int).length none = (ks.map V.int).length) := by
  have e : HT.sIx (ks.map V.int).length 0 (some (-1)) = ks.length - 1 := by
    unfold HT.sIx
    simp
    try omega
  have e2 : HT.sIx (ks.map V.int).length (ks.map V.int).length none = ks.length := by
    unfold HT.sIx
    simp
  refine ⟨?_, fun z => ?_⟩
  · unfold cutV
    rw [e, e2, ← List.map_drop, ← List.map_take]
    have d : ks.drop (ks.length - 1) = [ks.getD (ks.length - 1) 0] := by
      rw [List.drop_eq_getElem_cons (by omega), List.drop_eq_nil_of_le (by omega), List.getD_eq_getElem?_getD, List.getElem?_eq_getElem (by omega)]
      rfl
    rw [d, show ks.length - (ks.length - 1) = 1 by omega]
    rfl
  · rw [e] at z
    omega
theorem cut_mid (ks : List Int) (h : 2 ≤ ks.length) : cutV (ks.map V.int) (some 1) (some (-1)) = ((ks.drop 1).take (ks.length - 2)).map V.int ∧ ¬ (HT.sIx (ks.map V.int).length 0 (some 1) = 0 ∧ HT.sIx (ks.map V.int).length (ks.map V.int).length (some (-1)) = (ks.map V.int).length) := by
  have e : HT.sIx (ks.map V.int).length 0 (some 1) = 1 := by
    have := HT.sIx_nat (ks.map V.int).length 0 1
    rw [List.length_map] at this ⊢
    rw [show (some 1 : Option Int) = some ((1 : Nat) : Int) from rfl, this]
    omega
  have e2 : HT.sIx (ks.map V.int).length (ks.map V.int).length (some (-1)) = ks.length - 1 := by
    unfold HT.sIx
    simp
    try omega
  refine ⟨?_, fun z => ?_⟩
  · unfold cutV
    rw [e, e2, ← List.map_drop, ← List.map_take, show ks.length - 1 - 1 = ks.length - 2 by omega]
  · rw [e] at z
    omega
theorem cut_rest (ks : List Int) (h : 1 ≤ ks.length) : cutV (ks.map V.int) (some 1) none = (ks.drop 1).map V.int ∧ ¬ (HT.sIx (ks.map V.int).length 0 (some 1) = 0 ∧ HT.sIx (ks.map V.int).length (ks.map V.int).length none = (ks.map V.int).length) := by
  have e : HT.sIx (ks.map V.int).length 0 (some 1) = 1 := by
    have := HT.sIx_nat (ks.map V.int).length 0 1
    rw [List.length_map] at this ⊢
    rw [show (some 1 : Option Int) = some ((1 : Nat) : Int) from rfl, this]
    omega
  have e2 : HT.sIx (ks.map V.int).length (ks.map V.int).length none = ks.length := by
    unfold HT.sIx
    simp
  refine ⟨?_, fun z => ?_⟩
  · unfold cutV
    rw [e, e2, ← List.map_drop, ← List.map_take, List.take_of_length_le (by rw [List.length_drop]; exact Nat.le_refl _)]
  · rw [e] at z
    omega
theorem bnd_out {ks : List Int} (h : 2 ≤ ks.length) (hb : ∀ z ∈ ks, -1000000000 ≤ z ∧ z ≤ 1000000000) : ∀ z ∈ outRow ks, -1000000000 ≤ z ∧ z ≤ 1000000000 := by
  intro z hz
  unfold outRow at hz
  rcases List.mem_cons.mp hz with y | y
  · rw [y, List.getD_eq_getElem?_getD, List.getElem?_eq_getElem (by omega)]
    exact hb _ (List.getElem_mem _)
  · exact hb z (List.mem_of_mem_drop (List.mem_of_mem_take y))
def TookAt (C : Addr) (H : Hp) (t : Addr) (least : Int) (r : List Int × List Nat × Nat) : Prop := ∃ q : Addr, H t = some (.tup [.int least, .ref q]) ∧ resSift C H q r
def spTake2 (A : Ad) : Sp := fun vs H Q _ => ∃ (r w : Nat) (ks : List Int), vs = [.ref r, .int w] ∧ (1 ≤ w ∧ w ≤ 4) ∧ RowIn H r ks ∧ faultL ks w = [] ∧ ks ≠ [] ∧ Tabs (TT A) H ∧
  ∀ (H' : Hp) (t : Addr), ExtN H H' → Tabs (TT A) H' → TookAt A.CS H' t (ks.getD 0 0) (takeR ks w) → Q (.ref t) H'
theorem ok_tk (T : Tx K mg A) (TB : LamX.TabB base mg A.c_least_child A.P_least_child) : FnOk P w K mg base CX0 10 A.f_take A.d_take ["row", "arms"] (spTake2 A) := by
  obtain ⟨md, kd⟩ := kb_down T
  refine T.F_take.ok sc_take (fun vs H Q E h => ?_) (fun cdv B outer s H vs Q E hr h => ?_)
  · obtain ⟨r, w, ks, rfl, _⟩ := h
    rfl
  · obtain ⟨r, w, ks, rfl, hw, hrow, hf, hn, hT, q⟩ := h
    have nd := sc_take.nd
    have hl12 := hrow.2.1
    have hpos := List.length_pos_iff.mpr hn
    refine ⟨_, PSs.nox (pss_cons (ps_set (i := 2) nd rfl (Or.inl rfl) (pe_call (ok_fh T) (hr.mono (by decide)) (by rfl) T.m_filled_heap_of T.F_filled_heap_of.kp (b_fh T) .nil pass0 (pa_cons (pv 0) (pa_cons (pv 1) pa_nil))))
      (pss_cons (ps_if (pt_cmpR op_eq (pe_callB call_len_seq (by rfl) T.g_len PySem.boot_len (pa_cons (pv 2) pa_nil)) pe_int (nomark _)) (pss_one (ps_ret (pe_tup (pa_cons (pe_ix (r := rIx K) ix_seq (pv 2) pe_int (fun _ _ => rfl)) (pa_cons (pe_make T.mkCS (ok_zi T) (hr.mono (by decide)) (by rfl) T.mCS (b_zi T) .nil pass0 (pa_cons (pe_tup pa_nil) (pa_cons (pe_tup pa_nil) (pa_cons pe_int pa_nil)))) pa_nil))))) pss_nil)
      (pss_one (ps_ret (pe_tup (pa_cons (pe_ix (r := rIx K) ix_seq (pv 2) pe_int (fun _ _ => rfl)) (pa_cons (pe_callN (ok_down T TB) (hr.mono (by decide)) (by rfl) T.m_sift_down T.F_sift_down.kp kd pass0 (pa_cons (pe_op op_catA (pe_slice sl_tup (pv 2) (po_some (pe_un un_neg pe_int)) po_none) (pe_slice sl_tup (pv 2) (po_some pe_int) (po_some (pe_un un_neg pe_int)))) (pa_cons pe_int pa_nil)) (pk_cons (pv 1) pk_nil)) pa_nil))))))), ?_⟩
    refine ⟨_, rfl, _, rfl, r, w, ks, rfl, hw, hrow, hf, hn, fun H1 t s1 e1 => ?_⟩
    have at0 : atI (ks.map V.int) 0 = some (V.int (ks.getD 0 0)) := key_at hpos
    refine ⟨_, rfl, t, _, rfl, .inr (SqT.of e1), rfl, _, rfl, ?_⟩
    by_cases h1 : ks.length = 1
    · rw [decide_eq_true (show V.int ((ks.map V.int).length : Nat) = V.int 1 by rw [List.length_map, h1]; rfl)]
      refine iteT ?_
      refine ⟨_, rfl, .inr (.inl ⟨t, _, _, _, rfl, rfl, SqT.of e1, at0, Nat.zero_le _, fun u1 n1 => ⟨Nat.zero_le _, fun u2 n2 => ?_⟩⟩)⟩
      have s2 := (Same.up (o := .tup []) n1).trans (Same.up (o := .tup []) n2)
      intro x dx2 nx ndx nex
      have s3 := new_up (C := A.CS) nx ndx nex
      refine ⟨x, dx2, u1, u2, 0, [], [], rfl, upd_same, .inr (s3 _ _ ((Same.up n2) _ _ upd_same)), .inr (s3 _ _ upd_same), fun G6 k6 sx => ⟨rfl, by show 2 ≤ sizeLine; decide, fun z nz => ?_⟩⟩
      have s4 := s1.trans (s2.trans ((new_same nx ndx k6).trans (Same.up (o := .tup [V.int (ks.getD 0 0), V.ref x]) nz)))
      refine q _ z (extN_of s4) (hT.ext s4) ⟨x, upd_same, ?_⟩
      unfold takeR
      rw [if_pos h1]
      exact sx.same (Same.up nz)
    · rw [decide_eq_false (show ¬ V.int ((ks.map V.int).length : Nat) = V.int 1 by rw [List.length_map]; intro z; injection z with z; omega)]
      have h2 : 2 ≤ ks.length := by omega
      refine iteF ?_
      refine ⟨_, rfl, .inr (.inl ⟨t, _, _, _, rfl, rfl, SqT.of e1, at0, ?_⟩)⟩
      obtain ⟨c1, c1n⟩ := cut_end ks h2
      obtain ⟨c2, c2n⟩ := cut_mid ks h2
      refine ⟨_, rfl, _, rfl, _, rfl, t, _, rfl, SqT.of e1, c1n, fun a1 na1 => ?_⟩
      rw [c1]
      have sa := Same.up (o := .tup ([ks.getD (ks.length - 1) 0].map V.int)) na1
      refine ⟨_, rfl, _, rfl, _, rfl, _, rfl, t, _, rfl, SqT.of (sa _ _ e1), c2n, fun a2 na2 => ?_⟩
      rw [c2]
      have sb := Same.up (o := .tup (((ks.drop 1).take (ks.length - 2)).map V.int)) na2
      have ea1 := sb _ _ (upd_same (H := H1) (a := a1) (o := .tup ([ks.getD (ks.length - 1) 0].map V.int)))
      have ea2 : upd (upd H1 a1 (.tup ([ks.getD (ks.length - 1) 0].map V.int))) a2 (.tup (((ks.drop 1).take (ks.length - 2)).map V.int)) a2 = some (.tup (((ks.drop 1).take (ks.length - 2)).map V.int)) := upd_same
      have s2 := sa.trans sb
      clear sa sb
      generalize upd (upd H1 a1 (.tup ([ks.getD (ks.length - 1) 0].map V.int))) a2 (.tup (((ks.drop 1).take (ks.length - 2)).map V.int)) = H2 at s2 ea1 ea2
      refine ⟨a1, a2, _, _, rfl, rfl, SqT.of ea1, SqT.of ea2, Nat.le_of_lt (small1000 (by rw [List.length_map, List.length_map, List.length_take, List.length_drop, List.length_singleton]; omega)), fun z => (nomatch z), fun _ hn2 => ?_, fun _ hn2 c nc => ?_⟩
      · have e0 : (ks.drop 1).take (ks.length - 2) = [] := List.map_eq_nil_iff.mp hn2
        obtain ⟨c, rfl⟩ : ∃ c, c = a1 := ⟨a1, rfl⟩
        have s3 := s2
        have ec : H2 c = some (.tup ((outRow ks).map V.int)) := by unfold outRow; rw [e0]; exact ea1
        refine ⟨_, rfl, rfl, rfl, c, 0, w, outRow ks, rfl, hw, ⟨.inr ec, by rw [outRow_len h2]; omega, bnd_out h2 hrow.2.2⟩, by rw [outRow_len h2]; omega, (hT.ext s1).ext s3, fun H4 p e4 t4 rp => ⟨by show 2 ≤ sizeLine; decide, fun z nz => ?_⟩⟩
        have sz := Same.up (o := .tup [V.int (ks.getD 0 0), V.ref p]) nz
        refine q _ z ((extN_of (s1.trans s3)).trans (e4.trans (extN_of sz))) (t4.ext sz) ⟨p, upd_same, ?_⟩
        unfold takeR
        rw [if_neg h1]
        rw [outRow_len h2] at rp
        exact rp.same sz
      · have s3 := s2.trans (Same.up (o := .tup ((outRow ks).map V.int)) nc)
        have ec : upd H2 c (.tup ((outRow ks).map V.int)) c = some (.tup ((outRow ks).map V.int)) := upd_same
        rw [show [ks.getD (ks.length - 1) 0].map V.int ++ ((ks.drop 1).take (ks.length - 2)).map V.int = (outRow ks).map V.int from rfl]
        generalize upd H2 c (.tup ((outRow ks).map V.int)) = H3 at s3 ec
        refine ⟨_, rfl, rfl, rfl, c, 0, w, outRow ks, rfl, hw, ⟨.inr ec, by rw [outRow_len h2]; omega, bnd_out h2 hrow.2.2⟩, by rw [outRow_len h2]; omega, (hT.ext s1).ext s3, fun H4 p e4 t4 rp => ⟨by show 2 ≤ sizeLine; decide, fun z nz => ?_⟩⟩
        have sz := Same.up (o := .tup [V.int (ks.getD 0 0), V.ref p]) nz
        refine q _ z ((extN_of (s1.trans s3)).trans (e4.trans (extN_of sz))) (t4.ext sz) ⟨p, upd_same, ?_⟩
        unfold takeR
        rw [if_neg h1]
        rw [outRow_len h2] at rp
        exact rp.same sz
theorem kb_tk (T : Tx K mg A) : ∃ mv : List Value, KBn K A.d_take ["row", "arms"] 1 ["arms"] (fun us ws => us ++ (mv ++ ws)) (fun vs zs => vs ++ zs) := by
  obtain ⟨mv, h⟩ := T.F_take.kbinds0 (ps := ["row", "arms"]) 1 ["arms"] [] (fun us mv ws => us ++ (mv ++ ws)) (by simp) (by simp) (fun r1 r2 r3 => r1.append (r2.append r3))
    (fun D doc pm an cdv ct us mv ws h1 h2 h3 => by
      match us, mv, ws, h1, h2, h3 with
      | [a], [], [c], _, _, _ => rfl)
  exact ⟨mv, h⟩
/-! a key put for the least one -/
def putRow (k : Int) (ks : List Int) : List Int := k :: ks.drop 1
theorem putRow_len {k : Int} {ks : List Int} (h : 1 ≤ ks.length) : (putRow k ks).length = ks.length := by
  unfold putRow
  rw [List.length_cons, List.length_drop]
  omega
end
end Tw

set_option Elab.async false
set_option linter.all false
set_option maxRecDepth 100000
set_option maxHeartbeats 2000000
namespace Tw
open PySem PySem.Spec PyProof.Rows L2
section
variable {P : Program} {w : World} {K : PySem.W.Frag} {mg : Str → Option Value} {base : Heap} {A : Ad}
def HeapL (n w : Nat) (ks : List Int) : Prop := ∀ c, 1 ≤ c → c < n → keyAt ks ((c - 1) / w) ≤ keyAt ks c
theorem par_lt {w c : Nat} (h : 1 ≤ c) : (c - 1) / w < c := Nat.lt_of_le_of_lt (Nat.div_le_self _ _) (by omega)
theorem heapL_good {n w : Nat} {ks : List Int} (h : HeapL n w ks) : GoodFrom n w ks 0 := fun p _ hp c hc => by
  obtain ⟨h1, h2, h3⟩ := mem_kid.mp hc
  have := h c h1 h2
  rw [h3] at this
  exact this
theorem good_heapL {n w : Nat} {ks : List Int} (h : GoodFrom n w ks 0) : HeapL n w ks := fun c h1 h2 =>
  h ((c - 1) / w) (Nat.zero_le _) (by have := par_lt (w := w) h1; omega) c (mem_kid.mpr ⟨h1, h2, rfl⟩)
theorem heap_fault {n w : Nat} {ks : List Int} (hl : ks.length = n) (h : HeapL n w ks) : faultL ks w = [] := by
  refine List.eq_nil_iff_forall_not_mem.mpr fun p hp => ?_
  unfold faultL at hp
  obtain ⟨h1, h2⟩ := List.mem_filter.mp hp
  unfold faultB at h2
  obtain ⟨h3, h4⟩ := Bool.and_eq_true_iff.mp h2
  have h1 := List.mem_range.mp h1
  have h3 := of_decide_eq_true h3
  have h4 := of_decide_eq_true h4
  have := h p (by omega) (by omega)
  unfold keyAt at this
  omega
theorem root_least {n w : Nat} {ks : List Int} (h : HeapL n w ks) : ∀ c, c < n → keyAt ks 0 ≤ keyAt ks c := fun c => by
  induction c using Nat.strongRecOn with
  | _ c ih =>
    intro hc
    by_cases h0 : c = 0
    · rw [h0]; exact Int.le_refl _
    · have a := ih ((c - 1) / w) (par_lt (by omega)) (by have := par_lt (w := w) (c := c) (by omega); omega)
      exact Int.le_trans a (h c (by omega) hc)
theorem root_least_mem {w : Nat} {ks : List Int} (h : HeapL ks.length w ks) : ∀ z ∈ ks, ks.getD 0 0 ≤ z := fun z hz => by
  obtain ⟨i, hi, e⟩ := List.mem_iff_getElem.mp hz
  have := root_least h i hi
  unfold keyAt at this
  rw [List.getD_eq_getElem?_getD (i := i), List.getElem?_eq_getElem hi] at this
  rw [← e]
  exact this
theorem outRow_key {ks : List Int} {p : Nat} (h1 : 1 ≤ p) (h2 : p < ks.length - 1) : keyAt (outRow ks) p = keyAt ks p := by
  unfold keyAt outRow
  obtain ⟨p, rfl⟩ : ∃ p', p = p' + 1 := ⟨p - 1, by omega⟩
  rw [List.getD_eq_getElem?_getD, List.getD_eq_getElem?_getD, List.getElem?_cons_succ, List.getElem?_take_of_lt (by omega), List.getElem?_drop, Nat.add_comm 1 p]
  rfl
theorem head_cons {ks : List Int} (h : 1 ≤ ks.length) : ks = ks.getD 0 0 :: ks.drop 1 := by
  cases ks with
  | nil => exact absurd h (by decide)
  | cons a b => rfl
theorem outRow_perm {ks : List Int} (h : 2 ≤ ks.length) : (ks.getD 0 0 :: outRow ks).Perm ks := by
  have e := head_cons (ks := ks) (by omega)
  have d : ks.drop 1 = (ks.drop 1).take (ks.length - 2) ++ [ks.getD (ks.length - 1) 0] := by
    have x : (ks.drop 1).take (ks.length - 2) ++ [(ks.drop 1)[ks.length - 2]'(by rw [List.length_drop]; omega)] = (ks.drop 1).take (ks.length - 2 + 1) := List.take_append_getElem (by rw [List.length_drop]; omega)
    have x2 : (ks.drop 1).take (ks.length - 2 + 1) = ks.drop 1 := List.take_of_length_le (by rw [List.length_drop]; omega)
    have y : (ks.drop 1)[ks.length - 2]'(by rw [List.length_drop]; omega) = ks.getD (ks.length - 1) 0 := by
      rw [List.getElem_drop, List.getD_eq_getElem?_getD, List.getElem?_eq_getElem (by omega)]
      simp only [Option.getD_some]
      congr 1
      omega
    rw [y] at x
    exact x2.symm.trans x.symm
  have p : (outRow ks).Perm (ks.drop 1) := by
    refine List.Perm.trans (?_ : (outRow ks).Perm ((ks.drop 1).take (ks.length - 2) ++ [ks.getD (ks.length - 1) 0])) (List.Perm.of_eq d.symm)
    unfold outRow
    exact (List.perm_append_singleton _ _).symm
  exact (List.Perm.cons _ p).trans (List.Perm.of_eq e.symm)
theorem take_ok {w : Nat} (hw : 1 ≤ w) {ks : List Int} (hl : ks.length ≤ 12) (hp : 1 ≤ ks.length) (h : HeapL ks.length w ks) :
    (takeR ks w).1.length = ks.length - 1 ∧ HeapL (ks.length - 1) w (takeR ks w).1 ∧ (ks.getD 0 0 :: (takeR ks w).1).Perm ks := by
  unfold takeR
  by_cases h1 : ks.length = 1
  · rw [if_pos h1]
    refine ⟨by rw [h1]; rfl, fun c h2 h3 => by omega, ?_⟩
    have e := head_cons hp
    rw [List.drop_eq_nil_of_le (by omega)] at e
    exact List.Perm.of_eq e.symm
  · rw [if_neg h1]
    have h2 : 2 ≤ ks.length := by omega
    have hlo := outRow_len h2
    refine ⟨by rw [down_res]; exact hlo, good_heapL (down_good hw 20 _ 0 _ _ hlo (Nat.le_refl _) (by omega) (by omega) (fun p _ hp2 hp0 c hc => ?_) (fun q _ _ hq => ?_)), ?_⟩
    · obtain ⟨m1, m2, m3⟩ := mem_kid.mp hc
      rw [outRow_key (by omega) hp2, outRow_key m1 m2]
      have := h c m1 (by omega)
      rw [m3] at this
      exact this
    · have := (kid_in hw hq).1
      omega
    · exact (List.Perm.cons _ (down_perm hw 20 _ _ _ _ hlo (by omega))).trans (outRow_perm h2)
end
end Tw

set_option Elab.async false
set_option linter.all false
set_option maxRecDepth 100000
set_option maxHeartbeats 2000000
namespace Tw
open PySem PySem.Spec PyProof.Rows L2
section
variable {P : Program} {w : World} {K : PySem.W.Frag} {mg : Str → Option Value} {base : Heap} {A : Ad}
open LamX (ExtN Tabs TabS)
def DuesAt (sp : List Addr) (H : Hp) (D : Addr) (ps : List (Int × Int)) (fl : List Nat) : Prop := ∃ (d1 d2 : Addr) (xs : List V), H D = some (.lst [.ref d1, .ref d2]) ∧ H d1 = some (.lst xs) ∧ PrsAt H xs ps ∧ H d2 = some (.lst (vi fl)) ∧ ∀ l ∈ sp, l ≠ D ∧ l ≠ d1 ∧ l ≠ d2
theorem DuesAt.same {sp : List Addr} {H H' : Hp} {D : Addr} {ps : List (Int × Int)} {fl : List Nat} (h : DuesAt sp H D ps fl) (s : Same H H') : DuesAt sp H' D ps fl :=
  let ⟨d1, d2, xs, a, b, c, e, f⟩ := h; ⟨d1, d2, xs, s _ _ a, s _ _ b, c.same s, s _ _ e, f⟩
theorem DuesAt.spoil {sp : List Addr} {H : Hp} {D l : Addr} {ps : List (Int × Int)} {fl : List Nat} {zs ys : List V} (h : DuesAt sp H D ps fl) (hl : l ∈ sp) (e : H l = some (.lst zs)) : DuesAt sp (upd H l (.lst ys)) D ps fl := by
  obtain ⟨d1, d2, xs, a, b, c, g, f⟩ := h
  obtain ⟨f1, f2, f3⟩ := f l hl
  exact ⟨d1, d2, xs, by rw [upd_ne f1.symm]; exact a, by rw [upd_ne f2.symm]; exact b, PrsAt.put e c, by rw [upd_ne f3.symm]; exact g, f⟩
def dueD (ps : List (Int × Int)) (fl : List Nat) : PyData := .list [.list (ps.map prP), .list (dl fl)]
theorem dues_dp (K : PySem.W.Frag) {sp : List Addr} {H : Hp} {D : Addr} {ps : List (Int × Int)} {fl : List Nat} (h : DuesAt sp H D ps fl) : Dp K H (.ref D) (dueD ps fl) :=
  let ⟨_, _, _, a, b, c, e, _⟩ := h; .lst (SqL.of a) (.cons (.lst (SqL.of b) (prPs_dp K c)) (.cons (.lst (SqL.of e) (vi_dp _ _ _)) .nil))
theorem dl_deep (l : List Nat) : PyData.depthAll (dl l) ≤ 1 ∧ PyData.canLayAll0 (dl l) = true := by
  rw [dl_ints]
  exact ⟨ints_deep _, ints_lay _⟩
theorem dueD_shaped (ps : List (Int × Int)) (fl : List Nat) : SeqAt.shaped (dueD ps fl) = true := by
  have a := prPs_deep ps
  obtain ⟨b, c⟩ := dl_deep fl
  unfold SeqAt.shaped dueD
  rw [Bool.and_eq_true]
  refine ⟨?_, decide_eq_true ?_⟩
  · simp only [PyData.canLay0, PyData.canLayAll0, prPs_lay, c, Bool.and_true]
  · simp only [PyData.depth, PyData.depthAll]
    omega
/-- four rows as data -/
def fourD (a b c d : List Int) : PyData := .list [.tuple (a.map PyData.int), .tuple (b.map PyData.int), .tuple (c.map PyData.int), .tuple (d.map PyData.int)]
theorem fourD_shaped (a b c d : List Int) : SeqAt.shaped (fourD a b c d) = true := by
  have h1 := ints_deep a
  have h2 := ints_deep b
  have h3 := ints_deep c
  have h4 := ints_deep d
  unfold SeqAt.shaped fourD
  rw [Bool.and_eq_true]
  refine ⟨?_, decide_eq_true ?_⟩
  · simp only [PyData.canLay0, PyData.canLayAll0, ints_lay, Bool.and_true]
  · simp only [PyData.depth, PyData.depthAll]
    omega
def FourAt (H : Hp) (D : Addr) (a b c d : List Int) : Prop := ∃ t1 t2 t3 t4 : Addr, H D = some (.lst [.ref t1, .ref t2, .ref t3, .ref t4]) ∧ H t1 = some (.tup (a.map V.int)) ∧ H t2 = some (.tup (b.map V.int)) ∧ H t3 = some (.tup (c.map V.int)) ∧ H t4 = some (.tup (d.map V.int))
theorem four_dp (K : PySem.W.Frag) {H : Hp} {D : Addr} {a b c d : List Int} (h : FourAt H D a b c d) : Dp K H (.ref D) (fourD a b c d) :=
  let ⟨_, _, _, _, e, h1, h2, h3, h4⟩ := h; .lst (SqL.of e) (.cons (ints_tup K h1) (.cons (ints_tup K h2) (.cons (ints_tup K h3) (.cons (ints_tup K h4) .nil))))
theorem FourAt.same {H H' : Hp} {D : Addr} {a b c d : List Int} (h : FourAt H D a b c d) (s : Same H H') : FourAt H' D a b c d :=
  let ⟨t1, t2, t3, t4, e, h1, h2, h3, h4⟩ := h; ⟨t1, t2, t3, t4, s _ _ e, s _ _ h1, s _ _ h2, s _ _ h3, s _ _ h4⟩
/-- a list that may be spoiled -/
def FreeL (K : PySem.W.Frag) (a d : Addr) (ns : List Int) (H : Hp) (l : Addr) : Prop := (∃ zs, H l = some (.lst zs)) ∧ l ≠ d ∧ (l ≠ a ∨ ∀ H', SqL K H' a (ns.map V.int))
theorem FreeL.mk' {K : PySem.W.Frag} {a d : Addr} {ns : List Int} {k : Nat} {H H' : Hp} {l : Addr} {zs : List V} (h : DrAt K H d a ns k) (n : H l = none) (e : H' l = some (.lst zs)) : FreeL K a d ns H' l := by
  refine ⟨⟨zs, e⟩, (fun z => by rw [z, h.l] at n; cases n), ?_⟩
  rcases h.s with (h | ⟨o, h⟩) | h
  · exact .inl (ne_of_none h n).symm
  · exact .inl (ne_of_none h n).symm
  · exact .inr fun H' => .inr h
theorem FreeL.new {K : PySem.W.Frag} {a d : Addr} {ns : List Int} {k : Nat} {H : Hp} {l : Addr} {zs : List V} (h : DrAt K H d a ns k) (n : H l = none) : FreeL K a d ns (upd H l (.lst zs)) l := by
  refine ⟨⟨zs, upd_same⟩, (fun z => by rw [z, h.l] at n; cases n), ?_⟩
  rcases h.s with (h | ⟨o, h⟩) | h
  · exact .inl (ne_of_none h n).symm
  · exact .inl (ne_of_none h n).symm
  · exact .inr fun H' => .inr h
theorem FreeL.ext {K : PySem.W.Frag} {a d : Addr} {ns : List Int} {H H' : Hp} {l : Addr} (h : FreeL K a d ns H l) (e : ExtN H H') : FreeL K a d ns H' l :=
  let ⟨⟨zs, b⟩, c⟩ := h; ⟨⟨zs, e _ _ b (fun ps z => nomatch z)⟩, c⟩
theorem FreeL.same {K : PySem.W.Frag} {a d : Addr} {ns : List Int} {H H' : Hp} {l : Addr} (h : FreeL K a d ns H l) (s : Same H H') : FreeL K a d ns H' l := h.ext (extN_of s)
theorem FreeL.spoil {K : PySem.W.Frag} {a d : Addr} {ns : List Int} {H : Hp} {l b : Addr} {zs : List V} (h : FreeL K a d ns H l) : FreeL K a d ns (upd H b (.lst zs)) l := by
  obtain ⟨⟨ys, e⟩, c⟩ := h
  refine ⟨?_, c⟩
  by_cases z : l = b
  · exact ⟨zs, by rw [z]; exact upd_same⟩
  · exact ⟨ys, by rw [upd_ne z]; exact e⟩
theorem DrAt.spoil {K : PySem.W.Frag} {a d : Addr} {ns : List Int} {k : Nat} {H : Hp} {l : Addr} {zs : List V} (h : DrAt K H d a ns k) (f : FreeL K a d ns H l) : DrAt K (upd H l (.lst zs)) d a ns k := by
  obtain ⟨_, c1, c2⟩ := f
  refine ⟨by rw [upd_ne c1.symm]; exact h.l, h.n, ?_, h.h⟩
  rcases c2 with c | c
  · rcases h.s with (s | ⟨o, s⟩) | s
    · exact .inl (.inl (by rw [upd_ne c.symm]; exact s))
    · exact .inl (.inr ⟨o, by rw [upd_ne c.symm]; exact s⟩)
    · exact .inr s
  · exact c _
structure N9 (K : PySem.W.Frag) (A : Ad) (d a p5 u z m o : Addr) (ns ks : List Int) (k : Nat) (ru rz ro : List Int × List Nat × Nat) (st : BSt) (H : Hp) : Prop where
  dr : DrAt K H d a ns k
  t : Tabs (TT A) H
  kept : H p5 = some (.lst (ks.map V.int))
  u : resSift A.CS H u ru
  z : resSift A.CS H z rz
  m : BuiltAt A.CB H m st.1 st.2.1 st.2.2.1 st.2.2.2
  o : resSift A.CS H o ro
structure G9 (K : PySem.W.Frag) (A : Ad) (d a p5 p15 u z m o mi ot : Addr) (five : List Addr) (ns ks : List Int) (k : Nat) (ru rz ro : List Int × List Nat × Nat) (st : BSt) (H : Hp) : Prop where
  n : N9 K A d a p5 u z m o ns ks k ru rz ro st H
  due : FourAt H p15 ru.1 rz.1 st.1 ro.1
  mi : resSift A.CS H mi ru
  ot : BuiltAt A.CB H ot ru.1 st.2.1 st.2.2.1 st.2.2.2
  fv : ∀ l ∈ five, FreeL K a d ns H l ∧ l ≠ p5 ∧ l ≠ p15
section
variable {d a p5 p15 u z m o mi ot : Addr} {five : List Addr} {ns ks : List Int} {k : Nat} {ru rz ro : List Int × List Nat × Nat} {st : BSt} {H H' : Hp}
theorem N9.ext (h : N9 K A d a p5 u z m o ns ks k ru rz ro st H) (e : ExtN H H') (t : Tabs (TT A) H') : N9 K A d a p5 u z m o ns ks k ru rz ro st H' :=
  ⟨h.dr.ext e, t, e _ _ h.kept (fun ps z => nomatch z), SiftAt.ext h.u e, SiftAt.ext h.z e, h.m.ext e, SiftAt.ext h.o e⟩
theorem N9.same (h : N9 K A d a p5 u z m o ns ks k ru rz ro st H) (s : Same H H') : N9 K A d a p5 u z m o ns ks k ru rz ro st H' := h.ext (extN_of s) (h.t.ext s)
theorem G9.same (h : G9 K A d a p5 p15 u z m o mi ot five ns ks k ru rz ro st H) (s : Same H H') : G9 K A d a p5 p15 u z m o mi ot five ns ks k ru rz ro st H' :=
  ⟨h.n.same s, h.due.same s, SiftAt.same h.mi s, h.ot.same s, fun l hl => ⟨(h.fv l hl).1.same s, (h.fv l hl).2⟩⟩
theorem sift_spoil {C p l : Addr} {H : Hp} {xs ys : List V} {r w : List Int} {lk : Nat} (h : SiftAt C H p r w lk) (hl : H l = some (.lst xs)) : SiftAt C (upd H l (.lst ys)) p r w lk := by
  obtain ⟨dx, t1, t2, h1, h2, h3⟩ := h
  refine ⟨dx, t1, t2, ?_, ?_, ?_⟩
  · rw [upd_ne (ne_of h1 hl (by intro y; cases y))]; exact h1
  · rw [upd_ne (ne_of h2 hl (by intro y; cases y))]; exact h2
  · rw [upd_ne (ne_of h3 hl (by intro y; cases y))]; exact h3
theorem built_spoil {C p l : Addr} {H : Hp} {xs ys : List V} {r : List Int} {ps : List (Int × Int)} {ch lk : Nat} (h : BuiltAt C H p r ps ch lk) (hl : H l = some (.lst xs)) : BuiltAt C (upd H l (.lst ys)) p r ps ch lk := by
  obtain ⟨dx, t1, t2, zs, h1, h2, h3, h4⟩ := h
  refine ⟨dx, t1, t2, zs, ?_, ?_, ?_, PrsAt.put hl h4⟩
  · rw [upd_ne (ne_of h1 hl (by intro y; cases y))]; exact h1
  · rw [upd_ne (ne_of h2 hl (by intro y; cases y))]; exact h2
  · rw [upd_ne (ne_of h3 hl (by intro y; cases y))]; exact h3
theorem four_spoil {D l : Addr} {H : Hp} {xs ys : List V} {r1 r2 r3 r4 : List Int} (h : FourAt H D r1 r2 r3 r4) (hl : H l = some (.lst xs)) (n : l ≠ D) : FourAt (upd H l (.lst ys)) D r1 r2 r3 r4 := by
  obtain ⟨t1, t2, t3, t4, e, h1, h2, h3, h4⟩ := h
  refine ⟨t1, t2, t3, t4, ?_, ?_, ?_, ?_, ?_⟩
  · rw [upd_ne n.symm]; exact e
  · rw [upd_ne (ne_of h1 hl (by intro y; cases y))]; exact h1
  · rw [upd_ne (ne_of h2 hl (by intro y; cases y))]; exact h2
  · rw [upd_ne (ne_of h3 hl (by intro y; cases y))]; exact h3
  · rw [upd_ne (ne_of h4 hl (by intro y; cases y))]; exact h4
theorem G9.clear {l : Addr} (h : G9 K A d a p5 p15 u z m o mi ot five ns ks k ru rz ro st H) (hl : l ∈ five) : G9 K A d a p5 p15 u z m o mi ot five ns ks k ru rz ro st (upd H l (.lst [])) := by
  obtain ⟨f, n1, n2⟩ := h.fv l hl
  obtain ⟨⟨xs, e⟩, _⟩ := id f
  refine ⟨⟨h.n.dr.spoil f, tabs_upd h.n.t e, by rw [upd_ne n1.symm]; exact h.n.kept, sift_spoil h.n.u e, sift_spoil h.n.z e, built_spoil h.n.m e, sift_spoil h.n.o e⟩, four_spoil h.due e n2, sift_spoil h.mi e, built_spoil h.ot e, fun b hb => ⟨(h.fv b hb).1.spoil, (h.fv b hb).2⟩⟩
end
theorem G9.free {d a p5 p15 u z m o mi ot l : Addr} {five : List Addr} {ns ks : List Int} {k : Nat} {ru rz ro : List Int × List Nat × Nat} {st : BSt} {H : Hp} (h : G9 K A d a p5 p15 u z m o mi ot five ns ks k ru rz ro st H) (hl : l ∈ five) : ∃ zs, H l = some (.lst zs) := (h.fv l hl).1.1
structure B9 (K : PySem.W.Frag) (A : Ad) (d a q4 p5 : Addr) (ns ks : List Int) (k : Nat) (H : Hp) : Prop where
  dr : DrAt K H d a ns k
  t : Tabs (TT A) H
  keys : H q4 = some (.lst (ks.map V.int))
  kept : H p5 = some (.lst (ks.map V.int))
  f4 : FreeL K a d ns H q4
  ne : q4 ≠ p5
section
variable {d a q4 p5 l : Addr} {ns ks : List Int} {k : Nat} {H H' : Hp} {zs : List V}
theorem B9.ext (h : B9 K A d a q4 p5 ns ks k H) (e : ExtN H H') (t : Tabs (TT A) H') : B9 K A d a q4 p5 ns ks k H' := ⟨h.dr.ext e, t, e _ _ h.keys (fun ps z => nomatch z), e _ _ h.kept (fun ps z => nomatch z), h.f4.ext e, h.ne⟩
theorem B9.same (h : B9 K A d a q4 p5 ns ks k H) (s : Same H H') : B9 K A d a q4 p5 ns ks k H' := h.ext (extN_of s) (h.t.ext s)
theorem B9.spoil (h : B9 K A d a q4 p5 ns ks k H) (f : FreeL K a d ns H l) (n1 : l ≠ q4) (n2 : l ≠ p5) : B9 K A d a q4 p5 ns ks k (upd H l (.lst zs)) := by
  obtain ⟨⟨ys, e⟩, _⟩ := id f
  exact ⟨h.dr.spoil f, tabs_upd h.t e, by rw [upd_ne n1.symm]; exact h.keys, by rw [upd_ne n2.symm]; exact h.kept, h.f4.spoil, h.ne⟩
end
structure P9 (K : PySem.W.Frag) (A : Ad) (d a q4 p5 q12 u z m o : Addr) (ns ks : List Int) (k : Nat) (ru rz ro : List Int × List Nat × Nat) (st : BSt) (H : Hp) : Prop where
  n : N9 K A d a p5 u z m o ns ks k ru rz ro st H
  keys : H q4 = some (.lst (ks.map V.int))
  heap : H q12 = some (.lst (st.1.map V.int))
  f4 : FreeL K a d ns H q4
  f12 : FreeL K a d ns H q12
  n4 : q4 ≠ p5
  n12 : q12 ≠ p5
theorem P9.same {d a q4 p5 q12 u z m o : Addr} {ns ks : List Int} {k : Nat} {ru rz ro : List Int × List Nat × Nat} {st : BSt} {H H' : Hp} (h : P9 K A d a q4 p5 q12 u z m o ns ks k ru rz ro st H) (s : Same H H') : P9 K A d a q4 p5 q12 u z m o ns ks k ru rz ro st H' :=
  ⟨h.n.same s, s _ _ h.keys, s _ _ h.heap, h.f4.same s, h.f12.same s, h.n4, h.n12⟩
theorem lst_ne {H : Hp} {l p : Addr} {o : HO} (h : H l = some o) (n : H p = none) : l ≠ p := ne_of_none h n

end
end Tw

set_option Elab.async false
set_option linter.all false
set_option maxRecDepth 100000
set_option maxHeartbeats 2000000
namespace Tw
open PySem PySem.Spec PyProof.Rows L2
section
variable {P : Program} {w : World} {K : PySem.W.Frag} {mg : Str → Option Value} {base : Heap} {A : Ad}
open LamX (ExtN Tabs TabS)
def spLaw (K : PySem.W.Frag) (A : Ad) : Sp := fun vs H Q _ => ∃ (a : Addr) (ns : List Int), vs = [.ref a] ∧ SqL K H a (ns.map V.int) ∧ ns.length ≤ 63 ∧ Tabs (TT A) H ∧ ∀ H', Q (.bl true) H'
theorem ok_law (T : Tx K mg A) (TB : LamX.TabB base mg A.c_least_child A.P_least_child) : FnOk P w K mg base CX0 11 A.f_law A.d_law ["script"] (spLaw K A) := by
  obtain ⟨mb, kb⟩ := kb_build T
  obtain ⟨mp, kp⟩ := kb_push T
  obtain ⟨mt, kt⟩ := kb_tk T
  obtain ⟨mu, ku⟩ := kb_up T
  obtain ⟨md, kd⟩ := kb_down T
  obtain ⟨ml, kl⟩ := kb_fal T
  obtain ⟨mf, kf⟩ := kb_fau T
  refine T.F_law.ok sc_law (fun vs H Q E h => ?_) (fun cdv B outer s H vs Q E hr h => ?_)
  · obtain ⟨a, ns, rfl, _⟩ := h
    rfl
  · obtain ⟨a, ns, rfl, ha, hl, hT, q⟩ := h
    have nd := sc_law.nd
    have hu := hr.units
    refine ⟨_, (pss_cons (ps_set (i := 1) nd rfl (Or.inl rfl) (pe_lst (pa_cons (pv 0) (pa_cons pe_int pa_nil))))
      (pss_cons (ps_for PassesOwn.never rfl (pi_range1 rfl T.g_range (pa_cons pe_int pa_nil)) (pg_name (i := 2) nd rfl (Or.inl rfl)) (C8.pss_cut (ps_par (i := 3) (j := 4) rfl nd rfl rfl (by decide) rfl rfl (pa_cons (pe_call (ok_arm T) (hr.mono (by decide)) (by rfl) T.m__law_arms T.F__law_arms.kp (b_arm T) .nil pass0 (pa_cons (pv 1) pa_nil)) (pa_cons (pe_op op_cat (pe_call (ok_keys T) (hr.mono (by decide)) (by rfl) T.m__law_keys T.F__law_keys.kp (b_keys T) .nil pass0 (pa_cons (pv 1) (pa_cons pe_int (pa_cons pe_int pa_nil)))) (pe_lst (pa_cons (pe_call (ok_take T) (hr.mono (by decide)) (by rfl) T.m__law_take T.F__law_take.kp (b_take T) .nil pass0 (pa_cons (pv 1) (pa_cons pe_int pa_nil))) pa_nil))) pa_nil)) rfl)
      (C8.pss_cut (ps_set (i := 5) nd rfl (Or.inl rfl) (pe_callTy call_list_of (by rfl) T.g_list (by decide +kernel) (pa_cons (pv 4) pa_nil)))
      (C8.pss_cut (ps_par (i := 6) (j := 7) rfl nd rfl rfl (by decide) rfl rfl (pa_cons (pe_callN (ok_fal T) (hr.mono (by decide)) (by rfl) T.m_falls T.F_falls.kp kl pass0 (pa_cons (pv 4) pa_nil) (pk_cons (pv 3) pk_nil)) (pa_cons (pe_callN (ok_fau T) (hr.mono (by decide)) (by rfl) T.m_faults T.F_faults.kp kf pass0 (pa_cons (pv 4) pa_nil) (pk_cons (pv 3) pk_nil)) pa_nil)) rfl)
      (C8.pss_cut (ps_set (i := 8) nd rfl (Or.inl rfl) (pe_lst (pa_cons (pe_callTy call_list_of (by rfl) T.g_list (by decide +kernel) (pa_cons (pv 6) pa_nil)) (pa_cons (pe_callTy call_list_of (by rfl) T.g_list (by decide +kernel) (pa_cons (pv 7) pa_nil)) pa_nil))))
      (C8.pss_cut (ps_expr (pe_bm PySem.F.plainAttrs_list PySem.F.slot_list_append PySem.F.type_list_append mt_append (pv 6) (pa_cons (pe_tup (pa_cons pe_str (pa_cons pe_str pa_nil))) pa_nil)))
      (C8.pss_cut (ps_expr (pe_bm0 PySem.F.plainAttrs_list PySem.F.slot_list_clear PySem.F.type_list_clear mt_clear (pv 7)))
      (C8.pss_cut (ps_if (pt_cmpR (op_neD hu) (pe_lst (pa_cons (pe_callN (ok_fal T) (hr.mono (by decide)) (by rfl) T.m_falls T.F_falls.kp kl pass0 (pa_cons (pv 4) pa_nil) (pk_cons (pv 3) pk_nil)) (pa_cons (pe_callN (ok_fau T) (hr.mono (by decide)) (by rfl) T.m_faults T.F_faults.kp kf pass0 (pa_cons (pv 4) pa_nil) (pk_cons (pv 3) pk_nil)) pa_nil))) (pv 8) (nomark _)) (pss_one (ps_ret pe_bl)) pss_nil)
      (C8.pss_cut (ps_par (i := 9) (j := 10) rfl nd rfl rfl (by decide) rfl rfl (pa_cons (pe_callN (ok_up T) (hr.mono (by decide)) (by rfl) T.m_sift_up T.F_sift_up.kp ku pass0 (pa_cons (pv 4) (pa_cons (pe_op op_sub (pe_callB call_len_seq (by rfl) T.g_len PySem.boot_len (pa_cons (pv 4) pa_nil)) pe_int) pa_nil)) (pk_cons (pv 3) pk_nil)) (pa_cons (pe_callN (ok_down T TB) (hr.mono (by decide)) (by rfl) T.m_sift_down T.F_sift_down.kp kd pass0 (pa_cons (pv 4) (pa_cons pe_int pa_nil)) (pk_cons (pv 3) pk_nil)) pa_nil)) rfl)
      (C8.pss_cut (ps_set (i := 11) nd rfl (Or.inl rfl) (pe_callN (ok_build T TB) (hr.mono (by decide)) (by rfl) T.m_build T.F_build.kp kb pass0 (pa_cons (pv 4) pa_nil) (pk_cons (pv 3) pk_nil)))
      (C8.pss_cut (ps_set (i := 12) nd rfl (Or.inl rfl) (pe_callTy call_list_of (by rfl) T.g_list (by decide +kernel) (pa_cons (pe_fld (pv 11) rfl) pa_nil)))
      (C8.pss_cut (ps_asg (pe_callN (ok_tk T TB) (hr.mono (by decide)) (by rfl) T.m_take T.F_take.kp kt pass0 (pa_cons (pv 12) pa_nil) (pk_cons (pv 3) pk_nil)) (pg_tup rfl (pgs_cons (pg_name (i := 13) nd rfl (Or.inl rfl)) (pgs_cons (pg_name (i := 14) nd rfl (Or.inl rfl)) pgs_nil))))
      (C8.pss_cut (ps_if (PW.pt (pw_or (pt_cmpR (op_neD hu) (pv 4) (pv 5) (nomark _)) (pw_or1 (pt_cmpR (op_neD hu) (pv 12) (pe_callTy call_list_of (by rfl) T.g_list (by decide +kernel) (pa_cons (pe_fld (pv 11) rfl) pa_nil)) (nomark _))))) (pss_one (ps_ret pe_bl)) pss_nil)
      (C8.pss_cut (ps_set (i := 15) nd rfl (Or.inl rfl) (pe_lst (pa_cons (pe_fld (pv 9) rfl) (pa_cons (pe_fld (pv 10) rfl) (pa_cons (pe_fld (pv 11) rfl) (pa_cons (pe_fld (pv 14) rfl) pa_nil))))))
      (C8.pss_cut (ps_par3 (i := 16) (j := 17) (l := 18) rfl nd rfl rfl rfl (by decide) (by decide) (by decide) rfl rfl rfl (pa_cons (pe_callTy call_list_of (by rfl) T.g_list (by decide +kernel) (pa_cons (pe_fld (pv 9) rfl) pa_nil)) (pa_cons (pe_callTy call_list_of (by rfl) T.g_list (by decide +kernel) (pa_cons (pe_fld (pv 9) rfl) pa_nil)) (pa_cons (pe_callTy call_list_of (by rfl) T.g_list (by decide +kernel) (pa_cons (pe_fld (pv 11) rfl) pa_nil)) pa_nil))) rfl)
      (C8.pss_cut (ps_par (i := 19) (j := 20) rfl nd rfl rfl (by decide) rfl rfl (pa_cons (pe_make T.mkCS (ok_zi T) (hr.mono (by decide)) (by rfl) T.mCS (b_zi T) .nil pass0 (pa_cons (pv 16) (pa_cons (pv 17) (pa_cons (pe_fld (pv 9) rfl) pa_nil)))) (pa_cons (pe_make T.mkCB (ok_bi T) (hr.mono (by decide)) (by rfl) T.mCB (b_bi T) .nil pass0 (pa_cons (pv 16) (pa_cons (pv 18) (pa_cons (pe_fld (pv 11) rfl) (pa_cons (pe_fld (pv 11) rfl) pa_nil))))) pa_nil)) rfl)
      (C8.pss_cut (ps_for PassesOwn.never rfl (pi_seq (pe_tup (pa_cons (pv 4) (pa_cons (pv 12) (pa_cons (pv 16) (pa_cons (pv 17) (pa_cons (pv 18) pa_nil))))))) (pg_name (i := 21) nd rfl (Or.inl rfl)) (pss_one (ps_expr (pe_bm0 PySem.F.plainAttrs_list PySem.F.slot_list_clear PySem.F.type_list_clear mt_clear (pv 21)))))
      (C8.pss_cut (ps_if (pt_cmpR (op_ne_own T.eqcS (ok_zq T) (hr.mono (by decide)) (b_zq T) pass0) (pv 19) (pv 9) (nomark _)) (pss_one (ps_ret pe_bl)) pss_nil)
      (C8.pss_cut (ps_if (pt_cmpR (op_ne_own T.eqcB (ok_bq T) (hr.mono (by decide)) (b_bq T) pass0) (pv 20) (pe_make T.mkCB (ok_bi T) (hr.mono (by decide)) (by rfl) T.mCB (b_bi T) .nil pass0 (pa_cons (pe_fld (pv 9) rfl) (pa_cons (pe_fld (pv 11) rfl) (pa_cons (pe_fld (pv 11) rfl) (pa_cons (pe_fld (pv 11) rfl) pa_nil))))) (nomark _)) (pss_one (ps_ret pe_bl)) pss_nil)
      (C8.pss_cut (ps_if (pt_cmpR (op_neD hu) (pe_lst (pa_cons (pe_fld (pv 9) rfl) (pa_cons (pe_fld (pv 10) rfl) (pa_cons (pe_fld (pv 11) rfl) (pa_cons (pe_fld (pv 14) rfl) pa_nil))))) (pv 15) (nomark _)) (pss_one (ps_ret pe_bl)) pss_nil)
      (C8.pss_cut (ps_if (pt_cmpR (op_neD hu) (pe_callB cr_sortedI (by rfl) T.g_sorted (by decide +kernel) (pa_cons (pe_op op_cat (pe_lst (pa_cons (pv 13) pa_nil)) (pe_callTy call_list_of (by rfl) T.g_list (by decide +kernel) (pa_cons (pe_fld (pv 14) rfl) pa_nil))) pa_nil)) (pe_callB cr_sortedI (by rfl) T.g_sorted (by decide +kernel) (pa_cons (pv 5) pa_nil)) (nomark _)) (pss_one (ps_ret pe_bl)) pss_nil)
      (pss_one (ps_if (PW.pt (pw_and (pt_cmpR op_lt (pe_callB call_len_seq (by rfl) T.g_len PySem.boot_len (pa_cons (pe_ix (r := rIx K) ix_seq (pv 15) pe_int (fun _ _ => rfl)) pa_nil)) pe_int (nomark _)) (pw_and1 (pt_cmpR op_ne (pe_callB call_len_seq (by rfl) T.g_len PySem.boot_len (pa_cons (pe_fld (pe_callN (ok_push T) (hr.mono (by decide)) (by rfl) T.m_push T.F_push.kp kp pass0 (pa_cons (pe_ix (r := rIx K) ix_seq (pv 15) pe_int (fun _ _ => rfl)) (pa_cons pe_int pa_nil)) (pk_cons (pv 3) pk_nil)) rfl) pa_nil)) (pe_op op_add (pe_callB call_len_seq (by rfl) T.g_len PySem.boot_len (pa_cons (pv 5) pa_nil)) pe_int) (nomark _))))) (pss_one (ps_ret pe_bl)) pss_nil)))))))))))))))))))))))
      (pss_one (ps_ret pe_bl)))), ?_⟩
    refine ⟨_, rfl, by show 2 ≤ sizeLine; decide, fun d hd => ?_⟩
    have dr0 : DrAt K _ d a ns 0 := DrAt.start ha hl hd
    have t0 : Tabs (TT A) (upd H d (.lst [.ref a, .int 0])) := hT.ext (Same.up hd)
    refine ⟨4, rfl, by decide, by decide, for_range (n := 4) (fun i σ H' => ∃ k x2 x3 x4 x5 x6 x7 x8 x9 x10 x11 x12 x13 x14 x15 x16 x17 x18 x19 x20 x21, σ = [some (.ref a), some (.ref d), x2, x3, x4, x5, x6, x7, x8, x9, x10, x11, x12, x13, x14, x15, x16, x17, x18, x19, x20, x21] ∧ DrAt K H' d a ns k ∧ Tabs (TT A) H' ∧ k ≤ 20 * i) ⟨0, none, none, none, none, none, none, none, none, none, none, none, none, none, none, none, none, none, none, none, none, rfl, dr0, t0, by omega⟩ ?_ ?_⟩
    · rintro i σ H1 hi ⟨k, x2, x3, x4, x5, x6, x7, x8, x9, x10, x11, x12, x13, x14, x15, x16, x17, x18, x19, x20, x21, rfl, dr1, t1, hk⟩
      -- arms and keys
      refine ⟨fun σ' H' => ∃ (w : Nat) (q4 : Addr) (ks : List Int) (k' : Nat), σ' = [some (.ref a), some (.ref d), some (.int ((0 : Int) + (i : Nat))), some (.int w), some (.ref q4), x5, x6, x7, x8, x9, x10, x11, x12, x13, x14, x15, x16, x17, x18, x19, x20, x21] ∧ DrAt K H' d a ns k' ∧ Tabs (TT A) H' ∧ (1 ≤ w ∧ w ≤ 4) ∧ k' ≤ 20 * i + 16 ∧ ks ≠ [] ∧ ks.length ≤ 12 ∧ (∀ n ∈ ks, -1000000000 ≤ n ∧ n ≤ 1000000000) ∧ H' q4 = some (.lst (ks.map V.int)) ∧ FreeL K a d ns H' q4, ?_, ?_⟩
      · refine ⟨_, rfl, d, a, ns, k, rfl, dr1, by omega, fun H2 w b2 dr2 hw => ?_⟩
        have t2 := tabs_but t1 dr1.l b2
        refine ⟨_, rfl, d, a, ns, k + 1, 11, 9, rfl, dr2, by omega, by decide, by decide, fun H3 q3 ks k' b3 dr3 hk' hkl hkb q30 hq3 => ?_⟩
        have t3 := tabs_but t2 dr2.l b3
        have q3d : q3 ≠ d := fun z => by rw [z, dr2.l] at q30; cases q30
        refine ⟨_, rfl, d, a, ns, k', 9, rfl, dr3, by omega, by decide, fun H4 r b4 dr4 hr4 => ⟨by show 1 ≤ sizeLine; decide, fun l4 nl4 => ?_⟩⟩
        have t4 := tabs_but t3 dr3.l b4
        have hq4 := b4 _ _ q3d hq3
        have s5 := Same.up (o := .lst [V.int (r : Nat)]) nl4
        refine ⟨q3, l4, _, _, rfl, rfl, s5 _ _ hq4, upd_same, Nat.le_of_lt (small1000 (by rw [List.length_map, List.length_singleton]; omega)), fun p np => ?_⟩
        rw [map_one]
        have dr5 := dr4.same s5
        refine ⟨_, _, rfl, w, p, ks ++ [(r : Int)], k' + 1, rfl, dr5.same (Same.up np), (t4.ext s5).ext (Same.up np), hw, by omega, by simp, by rw [List.length_append, List.length_singleton]; omega, fun n hn => ?_, upd_same, FreeL.new dr5 np⟩
        rcases List.mem_append.mp hn with y | y
        · have := hkb n y
          omega
        · rw [List.mem_singleton.mp y]
          omega
      rintro σ' H2 ⟨w, q4, ks, k2, rfl, dr2, t2, hw, hk2, hne, hkl, hkb, hq4, fq4⟩
      have hpos := List.length_pos_iff.mpr hne
      -- kept
      refine ⟨fun σ' H' => ∃ p5 : Addr, σ' = [some (.ref a), some (.ref d), some (.int ((0 : Int) + (i : Nat))), some (.int w), some (.ref q4), some (.ref p5), x6, x7, x8, x9, x10, x11, x12, x13, x14, x15, x16, x17, x18, x19, x20, x21] ∧ B9 K A d a q4 p5 ns ks k2 H', ?_, ?_⟩
      · refine ⟨_, rfl, q4, _, rfl, .inl (SqL.of hq4), fun p5 np5 => ⟨p5, rfl, ?_⟩⟩
        have s3 := Same.up (o := .lst (ks.map V.int)) np5
        exact ⟨dr2.same s3, t2.ext s3, s3 _ _ hq4, upd_same, fq4.same s3, lst_ne hq4 np5⟩
      rintro σ' H3 ⟨p5, rfl, b3⟩
      -- falls and faults
      refine ⟨fun σ' H' => ∃ (f6 f7 : Addr) (xs : List V), σ' = [some (.ref a), some (.ref d), some (.int ((0 : Int) + (i : Nat))), some (.int w), some (.ref q4), some (.ref p5), some (.ref f6), some (.ref f7), x8, x9, x10, x11, x12, x13, x14, x15, x16, x17, x18, x19, x20, x21] ∧ B9 K A d a q4 p5 ns ks k2 H' ∧ H' f6 = some (.lst xs) ∧ PrsAt H' xs (fallN ks w ks.length) ∧ H' f7 = some (.lst (vi (faultL ks w))) ∧ FreeL K a d ns H' f6 ∧ FreeL K a d ns H' f7 ∧ (f6 ≠ q4 ∧ f6 ≠ p5) ∧ (f7 ≠ q4 ∧ f7 ≠ p5), ?_, ?_⟩
      · refine ⟨_, rfl, _, rfl, rfl, rfl, q4, w, ks, rfl, hw, ⟨.inl b3.keys, hkl, hkb⟩, fun H4 f6 xs s4 n4 e4 pr4 => ?_⟩
        have b4 := b3.same s4
        refine ⟨_, rfl, _, rfl, rfl, rfl, q4, w, ks, rfl, hw, ⟨.inl b4.keys, hkl, hkb⟩, fun H5 f7 s5 n5 e5 => ?_⟩
        exact ⟨_, _, rfl, f6, f7, xs, rfl, b4.same s5, s5 _ _ e4, pr4.same s5, e5, (FreeL.mk' b3.dr n4 e4).same s5, FreeL.mk' b4.dr n5 e5, ⟨(lst_ne b3.keys n4).symm, (lst_ne b3.kept n4).symm⟩, ⟨(lst_ne b4.keys n5).symm, (lst_ne b4.kept n5).symm⟩⟩
      rintro σ' H4 ⟨f6, f7, xs, rfl, b4, e6, pr6, e7, fr6, fr7, ⟨n64, n65⟩, ⟨n74, n75⟩⟩
      have hxl : xs.length ≤ 144 := by
        have h1 := Paired.length pr6
        have h2 := fallN_len ks w hkl ks.length
        omega
      -- dues
      refine ⟨fun σ' H' => ∃ D : Addr, σ' = [some (.ref a), some (.ref d), some (.int ((0 : Int) + (i : Nat))), some (.int w), some (.ref q4), some (.ref p5), some (.ref f6), some (.ref f7), some (.ref D), x9, x10, x11, x12, x13, x14, x15, x16, x17, x18, x19, x20, x21] ∧ B9 K A d a q4 p5 ns ks k2 H' ∧ DuesAt [f6, f7] H' D (fallN ks w ks.length) (faultL ks w) ∧ H' f6 = some (.lst xs) ∧ FreeL K a d ns H' f6 ∧ FreeL K a d ns H' f7, ?_, ?_⟩
      · refine ⟨_, rfl, f6, _, rfl, .inl (SqL.of e6), fun d1 nd1 => ?_⟩
        have s5 := Same.up (o := .lst xs) nd1
        refine ⟨_, rfl, f7, _, rfl, .inl (SqL.of (s5 _ _ e7)), fun d2 nd2 => ?_⟩
        have s6 := Same.up (o := .lst (vi (faultL ks w))) nd2
        refine ⟨by show 2 ≤ sizeLine; decide, fun D nD => ?_⟩
        have s7 := Same.up (o := .lst [V.ref d1, V.ref d2]) nD
        have s8 := s5.trans (s6.trans s7)
        have g1 := s7 _ _ (s6 _ _ (upd_same (H := H4) (a := d1) (o := .lst xs)))
        have g2 := s7 _ _ (upd_same (H := upd H4 d1 (.lst xs)) (a := d2) (o := .lst (vi (faultL ks w))))
        refine ⟨D, rfl, b4.same s8, ⟨d1, d2, xs, upd_same, g1, pr6.same s8, g2, fun l hl => ?_⟩, s8 _ _ e6, fr6.same s8, fr7.same s8⟩
        have key : ∃ zs, H4 l = some (.lst zs) := by
          rcases List.mem_cons.mp hl with rfl | hl
          · exact ⟨_, e6⟩
          · rw [List.mem_singleton.mp hl]
            exact ⟨_, e7⟩
        obtain ⟨zs, ez⟩ := key
        exact ⟨lst_ne (s6 _ _ (s5 _ _ ez)) nD, lst_ne ez nd1, lst_ne (s5 _ _ ez) nd2⟩
      rintro σ' H5 ⟨D8, rfl, b5, du5, e65, fr65, fr75⟩
      generalize eS : ([some (.ref a), some (.ref d), some (.int ((0 : Int) + (i : Nat))), some (.int w), some (.ref q4), some (.ref p5), some (.ref f6), some (.ref f7), some (.ref D8), x9, x10, x11, x12, x13, x14, x15, x16, x17, x18, x19, x20, x21] : L2.St) = S0
      refine ⟨fun σ' H' => σ' = S0 ∧ B9 K A d a q4 p5 ns ks k2 H' ∧ DuesAt [f6, f7] H' D8 (fallN ks w ks.length) (faultL ks w) ∧ FreeL K a d ns H' f7, ?_, ?_⟩
      · subst eS
        refine ⟨_, rfl, .inl ⟨rfl, _, SqL.of e65⟩, by show 2 ≤ sizeLine; decide, fun t nt => ?_⟩
        have s6 := Same.up (o := .tup [V.str ("x" : Str), V.str ("y" : Str)]) nt
        refine ⟨f6, _, _, rfl, rfl, s6 _ _ e65, small1000 (by omega), rfl, ?_⟩
        exact ⟨(b5.same s6).spoil (fr65.same s6) n64 n65, (du5.same s6).spoil (by simp) (s6 _ _ e65), (fr75.same s6).spoil⟩
      rintro σ' H6 ⟨eq, b6, du6, fr76⟩
      subst σ'
      refine ⟨fun σ' H' => σ' = S0 ∧ B9 K A d a q4 p5 ns ks k2 H' ∧ DuesAt [f6, f7] H' D8 (fallN ks w ks.length) (faultL ks w), ?_, ?_⟩
      · subst eS
        obtain ⟨⟨zs, ez⟩, _⟩ := id fr76
        refine ⟨_, rfl, .inl ⟨rfl, _, SqL.of ez⟩, f7, _, rfl, rfl, ez, rfl, ?_⟩
        exact ⟨b6.spoil fr76 n74 n75, du6.spoil (by simp) ez⟩
      rintro σ' H7 ⟨eq, b7, du7⟩
      subst σ'
      refine ⟨fun σ' H' => σ' = S0 ∧ B9 K A d a q4 p5 ns ks k2 H', ?_, ?_⟩
      · subst eS
        refine ⟨_, rfl, _, rfl, rfl, rfl, q4, w, ks, rfl, hw, ⟨.inl b7.keys, hkl, hkb⟩, fun H8 g6 ys s8 n8 e8 pr8 => ?_⟩
        have b8 := b7.same s8
        refine ⟨_, rfl, _, rfl, rfl, rfl, q4, w, ks, rfl, hw, ⟨.inl b8.keys, hkl, hkb⟩, fun H9 g7 s9 n9 e9 => ?_⟩
        refine ⟨by show 2 ≤ sizeLine; decide, fun L nL => ?_⟩
        have s10 := Same.up (o := .lst [V.ref g6, V.ref g7]) nL
        have duL : DuesAt [] (upd H9 L (.lst [V.ref g6, V.ref g7])) L (fallN ks w ks.length) (faultL ks w) := ⟨g6, g7, ys, upd_same, s10 _ _ (s9 _ _ e8), (pr8.same s9).same s10, s10 _ _ e9, fun l hl => nomatch hl⟩
        refine ⟨_, rfl, _, _, dues_dp K duL, dues_dp K (((du7.same s8).same s9).same s10), dueD_shaped _ _, dueD_shaped _ _, _, rfl, ?_⟩
        rw [refl_of (dueD_shaped _ _)]
        exact iteF ⟨rfl, (b8.same s9).same s10⟩
      rintro σ' H8 ⟨eq, b8⟩
      subst σ'
      clear b3 b4 b5 b6 b7 du5 du6 du7 fr6 fr7 fr65 fr75 fr76 e6 pr6 e7 e65
      have hrow8 : RowIn H8 q4 ks := ⟨.inl b8.keys, hkl, hkb⟩
      -- both sifts
      obtain ⟨ru, eru⟩ : ∃ ru, ru = goUp w 20 ks (ks.length - 1) [ks.length - 1] 0 := ⟨_, rfl⟩
      obtain ⟨rz, erz⟩ : ∃ rz, rz = goDown ks.length w 20 ks 0 [0] 0 := ⟨_, rfl⟩
      refine ⟨fun σ' H' => ∃ (u z : Addr), σ' = [some (.ref a), some (.ref d), some (.int ((0 : Int) + (i : Nat))), some (.int w), some (.ref q4), some (.ref p5), some (.ref f6), some (.ref f7), some (.ref D8), some (.ref u), some (.ref z), x11, x12, x13, x14, x15, x16, x17, x18, x19, x20, x21] ∧ B9 K A d a q4 p5 ns ks k2 H' ∧ resSift A.CS H' u ru ∧ resSift A.CS H' z rz, ?_, ?_⟩
      · subst eS
        refine ⟨_, rfl, _, rfl, q4, _, rfl, .inl (SqL.of b8.keys), _, _, rfl, rfl, _, rfl, rfl, rfl, q4, ks.length - 1, w, ks, ?_, hw, hrow8, by omega, fun H9 u s9 hu9 => ?_⟩
        · rw [List.length_map]
          exact congrArg (fun z => [V.ref q4, V.int z, V.int w]) (by omega)
        rw [← eru] at hu9
        have b9 := b8.same s9
        refine ⟨_, rfl, _, rfl, rfl, rfl, q4, 0, w, ks, rfl, hw, ⟨.inl b9.keys, hkl, hkb⟩, hpos, b9.t, fun H10 z e10 t10 hz10 => ?_⟩
        rw [← erz] at hz10
        exact ⟨_, _, rfl, u, z, rfl, b9.ext e10 t10, SiftAt.ext hu9 e10, hz10⟩
      clear eS
      rintro σ' H9 ⟨u, z, rfl, b9, hu9, hz9⟩
      -- building
      obtain ⟨st, est⟩ : ∃ st, st = bld ks.length w ks ks.length := ⟨_, rfl⟩
      have hperm : st.1.Perm ks := est ▸ bld_perm hw.1 rfl ks.length (Nat.le_refl _)
      have hsl : st.1.length = ks.length := hperm.length_eq
      have hheap : HeapL st.1.length w st.1 := by
        have := bld_good hw.1 hkl (rfl : ks.length = ks.length) ks.length (Nat.le_refl _)
        rw [Nat.sub_self, ← est] at this
        rw [hsl]
        exact good_heapL this
      have hstl : st.2.1.length ≤ ks.length := est ▸ bld_stops ks.length w ks ks.length
      have hsb : ∀ z ∈ st.1, -1000000000 ≤ z ∧ z ≤ 1000000000 := fun z hz => hkb z (hperm.mem_iff.mp hz)
      have hsne : st.1 ≠ [] := List.length_pos_iff.mp (by omega)
      refine ⟨fun σ' H' => ∃ m : Addr, σ' = [some (.ref a), some (.ref d), some (.int ((0 : Int) + (i : Nat))), some (.int w), some (.ref q4), some (.ref p5), some (.ref f6), some (.ref f7), some (.ref D8), some (.ref u), some (.ref z), some (.ref m), x12, x13, x14, x15, x16, x17, x18, x19, x20, x21] ∧ B9 K A d a q4 p5 ns ks k2 H' ∧ resSift A.CS H' u ru ∧ resSift A.CS H' z rz ∧ BuiltAt A.CB H' m st.1 st.2.1 st.2.2.1 st.2.2.2, ?_, ?_⟩
      · refine ⟨_, rfl, _, rfl, rfl, rfl, q4, w, ks, rfl, hw, ⟨.inl b9.keys, hkl, hkb⟩, b9.t, fun H10 m e10 t10 bf => ?_⟩
        rw [← est] at bf
        exact ⟨m, rfl, b9.ext e10 t10, SiftAt.ext hu9 e10, SiftAt.ext hz9 e10, bf⟩
      rintro σ' H10 ⟨m, rfl, b10, hu10, hz10, hm10⟩
      -- the heap's list
      refine ⟨fun σ' H' => ∃ q12 : Addr, σ' = [some (.ref a), some (.ref d), some (.int ((0 : Int) + (i : Nat))), some (.int w), some (.ref q4), some (.ref p5), some (.ref f6), some (.ref f7), some (.ref D8), some (.ref u), some (.ref z), some (.ref m), some (.ref q12), x13, x14, x15, x16, x17, x18, x19, x20, x21] ∧ B9 K A d a q4 p5 ns ks k2 H' ∧ resSift A.CS H' u ru ∧ resSift A.CS H' z rz ∧ BuiltAt A.CB H' m st.1 st.2.1 st.2.2.1 st.2.2.2 ∧ H' q12 = some (.lst (st.1.map V.int)) ∧ FreeL K a d ns H' q12 ∧ q12 ≠ p5, ?_, ?_⟩
      · obtain ⟨dx, t1, t2, xs, h1, h2, h3, h4⟩ := id hm10
        refine ⟨_, rfl, m, A.CB, dx, _, _, rfl, h1, T.cTB, T.bRow, uf_row _ _ _ _, t1, _, rfl, .inr (SqT.of h2), fun q12 nq => ?_⟩
        have s11 := Same.up (o := .lst (st.1.map V.int)) nq
        exact ⟨q12, rfl, b10.same s11, SiftAt.same hu10 s11, SiftAt.same hz10 s11, hm10.same s11, upd_same, FreeL.new b10.dr nq, (lst_ne b10.kept nq).symm⟩
      rintro σ' H11 ⟨q12, rfl, b11, hu11, hz11, hm11, e12, fr12, n12⟩
      -- taking
      obtain ⟨ro, ero⟩ : ∃ ro, ro = takeR st.1 w := ⟨_, rfl⟩
      obtain ⟨o1, o2, o3⟩ := take_ok hw.1 (by omega : st.1.length ≤ 12) (List.length_pos_iff.mpr hsne) hheap
      rw [← ero] at o1 o2 o3
      obtain ⟨lv, elv⟩ : ∃ lv, lv = st.1.getD 0 0 := ⟨_, rfl⟩
      rw [← elv] at o3
      refine ⟨fun σ' H' => ∃ o : Addr, σ' = [some (.ref a), some (.ref d), some (.int ((0 : Int) + (i : Nat))), some (.int w), some (.ref q4), some (.ref p5), some (.ref f6), some (.ref f7), some (.ref D8), some (.ref u), some (.ref z), some (.ref m), some (.ref q12), some (.int lv), some (.ref o), x15, x16, x17, x18, x19, x20, x21] ∧ P9 K A d a q4 p5 q12 u z m o ns ks k2 ru rz ro st H', ?_, ?_⟩
      · refine ⟨_, rfl, _, rfl, rfl, rfl, q12, w, st.1, rfl, hw, ⟨.inl e12, by omega, hsb⟩, heap_fault rfl hheap, hsne, b11.t, fun H12 t e12' t12 ⟨o, tk1, tk2⟩ => ?_⟩
        rw [← ero] at tk2
        rw [← elv] at tk1
        have b12 := b11.ext e12' t12
        exact ⟨t, _, rfl, SqT.of tk1, rfl, _, _, rfl, _, _, rfl, rfl, o, rfl, ⟨b12.dr, t12, b12.kept, SiftAt.ext hu11 e12', SiftAt.ext hz11 e12', hm11.ext e12', tk2⟩, b12.keys, e12' _ _ e12 (fun ps z => nomatch z), b12.f4, fr12.ext e12', b12.ne, n12⟩
      clear b8 b9 b10 b11 hu9 hu10 hu11 hz9 hz10 hz11 hm10 hm11 hrow8
      rintro σ' H12 ⟨o, rfl, p12⟩
      generalize eS : ([some (.ref a), some (.ref d), some (.int ((0 : Int) + (i : Nat))), some (.int w), some (.ref q4), some (.ref p5), some (.ref f6), some (.ref f7), some (.ref D8), some (.ref u), some (.ref z), some (.ref m), some (.ref q12), some (.int lv), some (.ref o), x15, x16, x17, x18, x19, x20, x21] : L2.St) = S1
      refine ⟨fun σ' H' => σ' = S1 ∧ P9 K A d a q4 p5 q12 u z m o ns ks k2 ru rz ro st H', ?_, ?_⟩
      · subst eS
        obtain ⟨dx, t1, t2, xs, h1, h2, h3, h4⟩ := id p12.n.m
        refine ⟨_, rfl, _, rfl, .list (ks.map PyData.int), .list (ks.map PyData.int), .lst (SqL.of p12.keys) (ints_dp _ _ _), .lst (SqL.of p12.n.kept) (ints_dp _ _ _), shaped_ints _, shaped_ints _, _, rfl, ?_⟩
        rw [refl_of (shaped_ints _)]
        refine iteF ⟨_, rfl, _, rfl, m, A.CB, dx, _, _, rfl, h1, T.cTB, T.bRow, uf_row _ _ _ _, t1, _, rfl, .inr (SqT.of h2), fun l nl => ?_⟩
        have s13 := Same.up (o := .lst (st.1.map V.int)) nl
        refine ⟨.list (st.1.map PyData.int), .list (st.1.map PyData.int), .lst (SqL.of (s13 _ _ p12.heap)) (ints_dp _ _ _), .lst (SqL.of upd_same) (ints_dp _ _ _), shaped_ints _, shaped_ints _, _, rfl, ?_⟩
        rw [refl_of (shaped_ints _)]
        exact iteF ⟨rfl, p12.same s13⟩
      rintro σ' H13 ⟨eq, p13⟩
      subst σ'
      -- what is due
      refine ⟨fun σ' H' => ∃ p15 : Addr, σ' = [some (.ref a), some (.ref d), some (.int ((0 : Int) + (i : Nat))), some (.int w), some (.ref q4), some (.ref p5), some (.ref f6), some (.ref f7), some (.ref D8), some (.ref u), some (.ref z), some (.ref m), some (.ref q12), some (.int lv), some (.ref o), some (.ref p15), x16, x17, x18, x19, x20, x21] ∧ P9 K A d a q4 p5 q12 u z m o ns ks k2 ru rz ro st H' ∧ FourAt H' p15 ru.1 rz.1 st.1 ro.1 ∧ q4 ≠ p15 ∧ q12 ≠ p15, ?_, ?_⟩
      · subst eS
        obtain ⟨du, u1, u2, ug1, ug2, ug3⟩ := id p13.n.u
        obtain ⟨dz, z1, z2, zg1, zg2, zg3⟩ := id p13.n.z
        obtain ⟨dm, m1, m2, ms, mg1, mg2, mg3, mg4⟩ := id p13.n.m
        obtain ⟨doo, o1', o2', og1, og2, og3⟩ := id p13.n.o
        refine ⟨_, rfl, u, A.CS, du, _, _, rfl, ug1, T.cTS, T.nRow, zf_row _ _ _, _, rfl, z, A.CS, dz, _, _, rfl, zg1, T.cTS, T.nRow, zf_row _ _ _, _, rfl, m, A.CB, dm, _, _, rfl, mg1, T.cTB, T.bRow, uf_row _ _ _ _, _, rfl, o, A.CS, doo, _, _, rfl, og1, T.cTS, T.nRow, zf_row _ _ _, by show 4 ≤ sizeLine; decide, fun D nD => ?_⟩
        have s14 := Same.up (o := .lst [V.ref u1, V.ref z1, V.ref m1, V.ref o1']) nD
        exact ⟨D, rfl, p13.same s14, ⟨u1, z1, m1, o1', upd_same, s14 _ _ ug2, s14 _ _ zg2, s14 _ _ mg2, s14 _ _ og2⟩, lst_ne p13.keys nD, lst_ne p13.heap nD⟩
      clear eS
      rintro σ' H14 ⟨p15, rfl, p14, fo14, n415, n1215⟩
      -- three lists
      refine ⟨fun σ' H' => ∃ (l1 l2 l3 : Addr) (xs : List V), σ' = [some (.ref a), some (.ref d), some (.int ((0 : Int) + (i : Nat))), some (.int w), some (.ref q4), some (.ref p5), some (.ref f6), some (.ref f7), some (.ref D8), some (.ref u), some (.ref z), some (.ref m), some (.ref q12), some (.int lv), some (.ref o), some (.ref p15), some (.ref l1), some (.ref l2), some (.ref l3), x19, x20, x21] ∧ P9 K A d a q4 p5 q12 u z m o ns ks k2 ru rz ro st H' ∧ FourAt H' p15 ru.1 rz.1 st.1 ro.1 ∧ H' l1 = some (.lst (ru.1.map V.int)) ∧ H' l2 = some (.lst ((wz ru.2.1).map V.int)) ∧ H' l3 = some (.lst xs) ∧ PrsAt H' xs st.2.1 ∧ ∀ l ∈ [l1, l2, l3], FreeL K a d ns H' l ∧ l ≠ p5 ∧ l ≠ p15, ?_, ?_⟩
      · obtain ⟨du, u1, u2, ug1, ug2, ug3⟩ := id p14.n.u
        obtain ⟨dm, m1, m2, ms, mg1, mg2, mg3, mg4⟩ := id p14.n.m
        obtain ⟨_, _, _, _, e15, _, _, _, _⟩ := id fo14
        refine ⟨_, rfl, u, A.CS, du, _, _, rfl, ug1, T.cTS, T.nRow, zf_row _ _ _, u1, _, rfl, .inr (SqT.of ug2), fun l1 n1 => ?_⟩
        have s1 := Same.up (o := .lst (ru.1.map V.int)) n1
        refine ⟨_, rfl, u, A.CS, du, _, _, rfl, s1 _ _ ug1, T.cTS, T.nWay, zf_way _ _ _, u2, _, rfl, .inr (SqT.of (s1 _ _ ug3)), fun l2 n2 => ?_⟩
        have s2 := Same.up (o := .lst ((wz ru.2.1).map V.int)) n2
        refine ⟨_, rfl, m, A.CB, dm, _, _, rfl, s2 _ _ (s1 _ _ mg1), T.cTB, T.bStops, uf_stops _ _ _ _, m2, _, rfl, .inr (SqT.of (s2 _ _ (s1 _ _ mg3))), fun l3 n3 => ?_⟩
        have s3 := Same.up (o := .lst ms) n3
        have s12 := s1.trans s2
        have s123 := s12.trans s3
        have g1 := s3 _ _ (s2 _ _ (upd_same (H := H14) (a := l1) (o := .lst (ru.1.map V.int))))
        have g2 := s3 _ _ (upd_same (H := upd H14 l1 (.lst (ru.1.map V.int))) (a := l2) (o := .lst ((wz ru.2.1).map V.int)))
        refine ⟨_, _, _, rfl, l1, l2, l3, ms, rfl, p14.same s123, fo14.same s123, g1, g2, upd_same, mg4.same s123, fun l hl => ?_⟩
        rcases List.mem_cons.mp hl with rfl | hl
        · exact ⟨FreeL.mk' p14.n.dr n1 g1, (lst_ne p14.n.kept n1).symm, (lst_ne e15 n1).symm⟩
        rcases List.mem_cons.mp hl with rfl | hl
        · exact ⟨FreeL.mk' (p14.n.dr.same s1) n2 g2, (lst_ne (s1 _ _ p14.n.kept) n2).symm, (lst_ne (s1 _ _ e15) n2).symm⟩
        · rw [List.mem_singleton.mp hl]
          exact ⟨FreeL.mk' (p14.n.dr.same s12) n3 upd_same, (lst_ne (s12 _ _ p14.n.kept) n3).symm, (lst_ne (s12 _ _ e15) n3).symm⟩
      rintro σ' H15 ⟨l1, l2, l3, xs, rfl, pp, fo15, e1, e2, e3, pr3, fr3⟩
      -- made of them
      obtain ⟨five, efive⟩ : ∃ five, five = [q4, q12, l1, l2, l3] := ⟨_, rfl⟩
      refine ⟨fun σ' H' => ∃ (mi ot : Addr), σ' = [some (.ref a), some (.ref d), some (.int ((0 : Int) + (i : Nat))), some (.int w), some (.ref q4), some (.ref p5), some (.ref f6), some (.ref f7), some (.ref D8), some (.ref u), some (.ref z), some (.ref m), some (.ref q12), some (.int lv), some (.ref o), some (.ref p15), some (.ref l1), some (.ref l2), some (.ref l3), some (.ref mi), some (.ref ot), x21] ∧ G9 K A d a p5 p15 u z m o mi ot five ns ks k2 ru rz ro st H', ?_, ?_⟩
      · obtain ⟨du, u1, u2, ug1, ug2, ug3⟩ := id pp.n.u
        refine ⟨_, rfl, _, rfl, _, rfl, u, A.CS, du, _, _, rfl, ug1, T.cTS, T.nLooks, zf_looks _ _ _, fun x dx2 nx ndx nex => ?_⟩
        have s3 := new_up (C := A.CS) nx ndx nex
        refine ⟨x, dx2, l1, l2, ru.2.2, ru.1, wz ru.2.1, rfl, upd_same, .inl (s3 _ _ e1), .inl (s3 _ _ e2), fun G6 k6 sx => ⟨rfl, ?_⟩⟩
        have s6 := new_same nx ndx k6
        have pp6 := pp.same s6
        obtain ⟨dm, m1, m2, ms, mg1, mg2, mg3, mg4⟩ := id pp6.n.m
        refine ⟨_, rfl, _, rfl, _, rfl, m, A.CB, dm, _, _, rfl, mg1, T.cTB, T.bChanges, uf_changes _ _ _ _, _, rfl, m, A.CB, dm, _, _, rfl, mg1, T.cTB, T.bLooks, uf_looks _ _ _ _, fun y dy2 ny ndy ney => ?_⟩
        have s7 := new_up (C := A.CB) ny ndy ney
        refine ⟨y, dy2, l1, l3, _, _, ru.1, xs, st.2.1, rfl, upd_same, .inl (s7 _ _ (s6 _ _ e1)), .inl (s7 _ _ (s6 _ _ e3)), (pr3.same s6).same s7, by omega, fun G7 k7 by7 => ⟨rfl, ?_⟩⟩
        have s8 := new_same ny ndy k7
        have s68 := s6.trans s8
        refine ⟨_, _, rfl, x, y, rfl, (pp6.same s8).n, fo15.same s68, SiftAt.same sx s8, by7, fun l hl => ?_⟩
        rw [efive] at hl
        rcases List.mem_cons.mp hl with rfl | hl
        · exact ⟨pp.f4.same s68, pp.n4, n415⟩
        rcases List.mem_cons.mp hl with rfl | hl
        · exact ⟨pp.f12.same s68, pp.n12, n1215⟩
        · exact ⟨(fr3 l hl).1.same s68, (fr3 l hl).2⟩
      clear p12 p13 p14 pp fo14 fo15 pr3 fr3 e1 e2 e3
      rintro σ' H16 ⟨mi, ot, rfl, g16⟩
      -- spoiled
      refine ⟨fun σ' H' => ∃ (x21 : Option V), σ' = [some (.ref a), some (.ref d), some (.int ((0 : Int) + (i : Nat))), some (.int w), some (.ref q4), some (.ref p5), some (.ref f6), some (.ref f7), some (.ref D8), some (.ref u), some (.ref z), some (.ref m), some (.ref q12), some (.int lv), some (.ref o), some (.ref p15), some (.ref l1), some (.ref l2), some (.ref l3), some (.ref mi), some (.ref ot), x21] ∧ G9 K A d a p5 p15 u z m o mi ot five ns ks k2 ru rz ro st H', ?_, ?_⟩
      · refine ⟨_, rfl, _, rfl, _, rfl, _, rfl, _, rfl, by show 5 ≤ sizeLine; decide, fun tt ntt => ?_⟩
        have s17 := Same.up (o := .tup [V.ref q4, V.ref q12, V.ref l1, V.ref l2, V.ref l3]) ntt
        have g17 := g16.same s17
        have et : upd H16 tt (.tup [V.ref q4, V.ref q12, V.ref l1, V.ref l2, V.ref l3]) tt = some (.tup (five.map V.ref)) := by rw [efive]; exact upd_same
        refine ⟨tt, _, rfl, .inr ⟨SqT.of et, ?_⟩⟩
        refine for_it (walk_tup (xs := five.map V.ref)) (fun j σ' H' => ∃ (x21 : Option V), σ' = [some (.ref a), some (.ref d), some (.int ((0 : Int) + (i : Nat))), some (.int w), some (.ref q4), some (.ref p5), some (.ref f6), some (.ref f7), some (.ref D8), some (.ref u), some (.ref z), some (.ref m), some (.ref q12), some (.int lv), some (.ref o), some (.ref p15), some (.ref l1), some (.ref l2), some (.ref l3), some (.ref mi), some (.ref ot), x21] ∧ G9 K A d a p5 p15 u z m o mi ot five ns ks k2 ru rz ro st H' ∧ H' tt = some (.tup (five.map V.ref))) ⟨x21, rfl, g17, et⟩ (fun j σ' H' _ ⟨_, _, _, h⟩ => SqT.of h) ?_ ?_
        · rintro j x σ' H18 H19 hj ⟨x21, rfl, g18, et18⟩ ⟨rfl, hx⟩
          obtain ⟨l, hl, rfl⟩ := List.mem_map.mp (List.mem_of_getElem? hx)
          obtain ⟨zs, ez⟩ := g18.free hl
          refine ⟨_, rfl, .inl ⟨rfl, _, SqL.of ez⟩, l, _, rfl, rfl, ez, ?_⟩
          exact ⟨_, rfl, g18.clear hl, by rw [upd_ne (ne_of et18 ez (by intro y; cases y))]; exact et18⟩
        · rintro σ' H18 ⟨x21, rfl, g18, et18⟩
          exact ⟨x21, rfl, g18⟩
      rintro σ' H17 ⟨x21, rfl, g17⟩
      generalize eS : ([some (.ref a), some (.ref d), some (.int ((0 : Int) + (i : Nat))), some (.int w), some (.ref q4), some (.ref p5), some (.ref f6), some (.ref f7), some (.ref D8), some (.ref u), some (.ref z), some (.ref m), some (.ref q12), some (.int lv), some (.ref o), some (.ref p15), some (.ref l1), some (.ref l2), some (.ref l3), some (.ref mi), some (.ref ot), x21] : L2.St) = S2
      refine ⟨fun σ' H' => σ' = S2 ∧ G9 K A d a p5 p15 u z m o mi ot five ns ks k2 ru rz ro st H', ?_, ?_⟩
      · subst eS
        obtain ⟨dx1, fs1, hi1⟩ := sift_ins g17.mi
        obtain ⟨dx2, fs2, hi2⟩ := sift_ins g17.n.u
        refine ⟨_, rfl, _, rfl, mi, dx1, fs1, rfl, hi1, .ins hi2, zq_of g17.mi g17.n.u (decide_eq_true ⟨rfl, rfl, rfl⟩) ⟨_, rfl, _, rfl, ?_⟩⟩
        exact iteF ⟨rfl, g17⟩
      rintro σ' H18 ⟨eq, g18⟩
      subst σ'
      refine ⟨fun σ' H' => σ' = S2 ∧ G9 K A d a p5 p15 u z m o mi ot five ns ks k2 ru rz ro st H', ?_, ?_⟩
      · subst eS
        obtain ⟨du, u1, u2, ug1, ug2, ug3⟩ := id g18.n.u
        obtain ⟨dm, m1, m2, ms, mg1, mg2, mg3, mg4⟩ := id g18.n.m
        refine ⟨_, rfl, _, rfl, u, A.CS, du, _, _, rfl, ug1, T.cTS, T.nRow, zf_row _ _ _, _, rfl, m, A.CB, dm, _, _, rfl, mg1, T.cTB, T.bStops, uf_stops _ _ _ _, _, rfl, m, A.CB, dm, _, _, rfl, mg1, T.cTB, T.bChanges, uf_changes _ _ _ _, _, rfl, m, A.CB, dm, _, _, rfl, mg1, T.cTB, T.bLooks, uf_looks _ _ _ _, fun y dy2 ny ndy ney => ?_⟩
        have s7 := new_up (C := A.CB) ny ndy ney
        refine ⟨y, dy2, u1, m2, _, _, ru.1, ms, st.2.1, rfl, upd_same, .inr (s7 _ _ ug2), .inr (s7 _ _ mg3), mg4.same s7, by omega, fun G7 k7 by7 => ⟨rfl, ?_⟩⟩
        have g19 := g18.same (new_same ny ndy k7)
        obtain ⟨dx1, fs1, hi1⟩ := built_ins g19.ot
        obtain ⟨dx2, fs2, hi2⟩ := built_ins by7
        refine ⟨ot, dx1, fs1, rfl, hi1, .ins hi2, bq_of g19.ot by7 (decide_eq_true ⟨rfl, rfl, rfl, rfl⟩) ⟨_, rfl, _, rfl, ?_⟩⟩
        exact iteF ⟨rfl, g19⟩
      rintro σ' H19 ⟨eq, g19⟩
      subst σ'
      refine ⟨fun σ' H' => σ' = S2 ∧ G9 K A d a p5 p15 u z m o mi ot five ns ks k2 ru rz ro st H', ?_, ?_⟩
      · subst eS
        obtain ⟨du, u1, u2, ug1, ug2, ug3⟩ := id g19.n.u
        obtain ⟨dz, z1, z2, zg1, zg2, zg3⟩ := id g19.n.z
        obtain ⟨dm, m1, m2, ms, mg1, mg2, mg3, mg4⟩ := id g19.n.m
        obtain ⟨doo, o1', o2', og1, og2, og3⟩ := id g19.n.o
        refine ⟨_, rfl, u, A.CS, du, _, _, rfl, ug1, T.cTS, T.nRow, zf_row _ _ _, _, rfl, z, A.CS, dz, _, _, rfl, zg1, T.cTS, T.nRow, zf_row _ _ _, _, rfl, m, A.CB, dm, _, _, rfl, mg1, T.cTB, T.bRow, uf_row _ _ _ _, _, rfl, o, A.CS, doo, _, _, rfl, og1, T.cTS, T.nRow, zf_row _ _ _, by show 4 ≤ sizeLine; decide, fun D nD => ?_⟩
        have s14 := Same.up (o := .lst [V.ref u1, V.ref z1, V.ref m1, V.ref o1']) nD
        have f20 : FourAt (upd H19 D (.lst [V.ref u1, V.ref z1, V.ref m1, V.ref o1'])) D ru.1 rz.1 st.1 ro.1 := ⟨u1, z1, m1, o1', upd_same, s14 _ _ ug2, s14 _ _ zg2, s14 _ _ mg2, s14 _ _ og2⟩
        have g20 := g19.same s14
        refine ⟨_, rfl, _, _, four_dp K f20, four_dp K g20.due, fourD_shaped _ _ _ _, fourD_shaped _ _ _ _, _, rfl, ?_⟩
        rw [refl_of (fourD_shaped _ _ _ _)]
        exact iteF ⟨rfl, g20⟩
      rintro σ' H20 ⟨eq, g20⟩
      subst σ'
      refine ⟨fun σ' H' => σ' = S2 ∧ G9 K A d a p5 p15 u z m o mi ot five ns ks k2 ru rz ro st H', ?_, ?_⟩
      · subst eS
        obtain ⟨doo, o1', o2', og1, og2, og3⟩ := id g20.n.o
        refine ⟨_, rfl, by show 1 ≤ sizeLine; decide, fun la nla => ?_⟩
        have sa := Same.up (o := .lst [V.int lv]) nla
        refine ⟨_, rfl, o, A.CS, doo, _, _, rfl, sa _ _ og1, T.cTS, T.nRow, zf_row _ _ _, o1', _, rfl, .inr (SqT.of (sa _ _ og2)), fun lb nlb => ?_⟩
        have sb := Same.up (o := .lst (ro.1.map V.int)) nlb
        have ela := sb _ _ (upd_same (H := H20) (a := la) (o := .lst [V.int lv]))
        refine ⟨la, lb, _, _, rfl, rfl, ela, upd_same, Nat.le_of_lt (small1000 (by rw [List.length_singleton, List.length_map]; omega)), fun p np => ?_⟩
        rw [show [V.int lv] ++ ro.1.map V.int = (lv :: ro.1).map V.int from rfl]
        have s2 := (sa.trans sb).trans (Same.up (o := .lst ((lv :: ro.1).map V.int)) np)
        refine ⟨p, lv :: ro.1, rfl, SqL.of upd_same, fun n1 p1 perm1 srt1 np1 => ?_⟩
        have s3 := s2.trans (Same.up (o := .lst (n1.map V.int)) np1)
        have ep1 := upd_same (H := upd (upd (upd H20 la (.lst [V.int lv])) lb (.lst (ro.1.map V.int))) p (.lst ((lv :: ro.1).map V.int))) (a := p1) (o := .lst (n1.map V.int))
        generalize upd (upd (upd (upd H20 la (.lst [V.int lv])) lb (.lst (ro.1.map V.int))) p (.lst ((lv :: ro.1).map V.int))) p1 (.lst (n1.map V.int)) = H21 at s3 ep1
        have g21 := g20.same s3
        refine ⟨_, rfl, p5, ks, rfl, SqL.of g21.n.kept, fun n2 p2 perm2 srt2 np2 => ?_⟩
        have s4 := Same.up (o := .lst (n2.map V.int)) np2
        obtain rfl : n1 = n2 := sorted_one (((perm1.trans o3).trans hperm).trans perm2.symm) srt1 srt2
        refine ⟨.list (n1.map PyData.int), .list (n1.map PyData.int), .lst (SqL.of (s4 _ _ ep1)) (ints_dp _ _ _), .lst (SqL.of upd_same) (ints_dp _ _ _), shaped_ints _, shaped_ints _, _, rfl, ?_⟩
        rw [refl_of (shaped_ints _)]
        exact iteF ⟨rfl, g21.same s4⟩
      rintro σ' H21 ⟨eq, g21⟩
      subst σ'
      -- one more
      subst eS
      obtain ⟨t1, t2, t3, t4, f0, f1, f2, f3, f4⟩ := id g21.due
      have at2 : atI [V.ref t1, V.ref t2, V.ref t3, V.ref t4] 2 = some (V.ref t3) := rfl
      have fin : ∀ H', Same H21 H' → ∃ k x2 x3 x4 x5 x6 x7 x8 x9 x10 x11 x12 x13 x14 x15 x16 x17 x18 x19 x20 x21', ([some (.ref a), some (.ref d), some (.int ((0 : Int) + (i : Nat))), some (.int w), some (.ref q4), some (.ref p5), some (.ref f6), some (.ref f7), some (.ref D8), some (.ref u), some (.ref z), some (.ref m), some (.ref q12), some (.int lv), some (.ref o), some (.ref p15), some (.ref l1), some (.ref l2), some (.ref l3), some (.ref mi), some (.ref ot), x21] : L2.St) = [some (.ref a), some (.ref d), x2, x3, x4, x5, x6, x7, x8, x9, x10, x11, x12, x13, x14, x15, x16, x17, x18, x19, x20, x21'] ∧ DrAt K H' d a ns k ∧ Tabs (TT A) H' ∧ k ≤ 20 * (i + 1) := fun H' s =>
        ⟨k2, _, _, _, _, _, _, _, _, _, _, _, _, _, _, _, _, _, _, _, _, rfl, g21.n.dr.same s, g21.n.t.ext s, by omega⟩
      refine ⟨_, rfl, .inl ⟨p15, _, _, _, rfl, rfl, SqL.of f0, at2, ?_⟩⟩
      refine ⟨t3, _, rfl, .inr (SqT.of f3), _, _, rfl, rfl, _, rfl, ?_⟩
      by_cases h12 : st.1.length < 12
      · rw [decide_eq_true (by rw [List.length_map]; omega)]
        refine iteT ?_
        refine ⟨_, rfl, .inl ⟨p15, _, _, _, rfl, rfl, SqL.of f0, at2, ?_⟩⟩
        refine ⟨_, rfl, rfl, rfl, t3, w, 5, st.1, rfl, hw, ⟨.inr f3, by omega, hsb⟩, heap_fault rfl hheap, by omega, h12, fun H22 p s22 rp => ?_⟩
        have hl2 : (goUp w 20 (st.1 ++ [5]) st.1.length [st.1.length] 0).1.length = st.1.length + 1 := by rw [up_res, List.length_append]; rfl
        obtain ⟨dp, p1, p2, pg1, pg2, pg3⟩ := rp
        refine ⟨p, A.CS, dp, _, _, rfl, pg1, T.cTS, T.nRow, zf_row _ _ _, p1, _, rfl, .inr (SqT.of pg2), _, rfl, p5, _, rfl, .inl (SqL.of (s22 _ _ g21.n.kept)), _, _, rfl, rfl, rfl, _, rfl, ?_⟩
        rw [List.length_map, List.length_map, hl2, hsl]
        rw [decide_eq_true (show V.int ((ks.length + 1 : Nat) : Int) = V.int ((ks.length : Int) + 1) from rfl)]
        exact iteF (fin _ s22)
      · rw [decide_eq_false (by rw [List.length_map]; omega)]
        exact iteF (iteF (fin _ (Same.refl _)))
    · rintro σ H1 _
      exact q _

end
end Tw

set_option Elab.async false
set_option linter.all false
set_option maxRecDepth 100000
set_option maxHeartbeats 2000000
namespace Tw
open PySem PySem.Spec PyProof.Rows L2
theorem kit_no {K : PySem.W.Frag} {C : Addr} {t : String} (hc : PySem.W.isClsIn K C = true) (ht : PySem.W.typeIn K (.ref C) = some (.type "type")) (hs : PySem.W.subIn K (.type t) (.ref C) = some false) : PySem.W.kitOne K (.type t) (.ref C) = some false := by
  unfold PySem.W.kitOne PySem.W.kitCls
  have h1 : (PySem.W.clsIn K C).isSome = true := hc
  simp only [h1, ht, hs, beq_self_eq_true, Bool.and_self, if_true]
  rfl
theorem all_mk {l : PySem.W.OpenLaw} {w : World} {K : PySem.W.Frag} {h : Heap} {mg : Str → Option Value} (X : K.In h) (G : h.Ns mainGlobals mg) {fa C CS CB po D_t___init__ D_t_of D_faults D_falls D_sift_up D_sift_down D_push D_take D_build f_is_integer f_is_integer_from f_is_key f_check_arms f_check_many f_check_place f_check_key f_row_of f_t___init__ f_t_of f_t___len__ f_t___iter__ f_t___getitem__ f_t_parent f_t_way_to f_t_subtree f_faults f_falls f_heap_of f_z___init__ f_z___eq__ f_sift_up f_sift_down f_least_child f_u___init__ f_u___eq__ f_push f_take f_build f_filled_heap_of f_check_filled f__law_number f__law_take f__law_pick f__law_arms f__law_keys f_law : Addr} {cc_least_child PP_least_child : Addr} {od_is_integer an_is_integer : Option Addr} {sl_is_integer : Array (Option Value)} {oc_is_integer kV_is_integer dc_is_integer pm_is_integer cd_is_integer ct_is_integer : Value} {od_is_integer_from an_is_integer_from : Option Addr} {sl_is_integer_from : Array (Option Value)} {oc_is_integer_from kV_is_integer_from dc_is_integer_from pm_is_integer_from cd_is_integer_from ct_is_integer_from : Value} {od_is_key an_is_key : Option Addr} {sl_is_key : Array (Option Value)} {oc_is_key kV_is_key dc_is_key pm_is_key cd_is_key ct_is_key : Value} {od_check_arms an_check_arms : Option Addr} {sl_check_arms : Array (Option Value)} {oc_check_arms kV_check_arms dc_check_arms pm_check_arms cd_check_arms ct_check_arms : Value} {od_check_many an_check_many : Option Addr} {sl_check_many : Array (Option Value)} {oc_check_many kV_check_many dc_check_many pm_check_many cd_check_many ct_check_many : Value} {od_check_place an_check_place : Option Addr} {sl_check_place : Array (Option Value)} {oc_check_place kV_check_place dc_check_place pm_check_place cd_check_place ct_check_place : Value} {od_check_key an_check_key : Option Addr} {sl_check_key : Array (Option Value)} {oc_check_key kV_check_key dc_check_key pm_check_key cd_check_key ct_check_key : Value} {od_row_of an_row_of : Option Addr} {sl_row_of : Array (Option Value)} {oc_row_of kV_row_of dc_row_of pm_row_of cd_row_of ct_row_of : Value} {od_t___init__ an_t___init__ : Option Addr} {sl_t___init__ : Array (Option Value)} {oc_t___init__  dc_t___init__ pm_t___init__ cd_t___init__ ct_t___init__ : Value} {od_t_of an_t_of : Option Addr} {sl_t_of : Array (Option Value)} {oc_t_of  dc_t_of pm_t_of cd_t_of ct_t_of : Value} {od_t___len__ an_t___len__ : Option Addr} {sl_t___len__ : Array (Option Value)} {oc_t___len__ kV_t___len__ dc_t___len__ pm_t___len__ cd_t___len__ ct_t___len__ : Value} {od_t___iter__ an_t___iter__ : Option Addr} {sl_t___iter__ : Array (Option Value)} {oc_t___iter__ kV_t___iter__ dc_t___iter__ pm_t___iter__ cd_t___iter__ ct_t___iter__ : Value} {od_t___getitem__ an_t___getitem__ : Option Addr} {sl_t___getitem__ : Array (Option Value)} {oc_t___getitem__ kV_t___getitem__ dc_t___getitem__ pm_t___getitem__ cd_t___getitem__ ct_t___getitem__ : Value} {od_t_parent an_t_parent : Option Addr} {sl_t_parent : Array (Option Value)} {oc_t_parent kV_t_parent dc_t_parent pm_t_parent cd_t_parent ct_t_parent : Value} {od_t_way_to an_t_way_to : Option Addr} {sl_t_way_to : Array (Option Value)} {oc_t_way_to kV_t_way_to dc_t_way_to pm_t_way_to cd_t_way_to ct_t_way_to : Value} {od_t_subtree an_t_subtree : Option Addr} {sl_t_subtree : Array (Option Value)} {oc_t_subtree kV_t_subtree dc_t_subtree pm_t_subtree cd_t_subtree ct_t_subtree : Value} {od_faults an_faults : Option Addr} {sl_faults : Array (Option Value)} {oc_faults  dc_faults pm_faults cd_faults ct_faults : Value} {od_falls an_falls : Option Addr} {sl_falls : Array (Option Value)} {oc_falls  dc_falls pm_falls cd_falls ct_falls : Value} {od_heap_of an_heap_of : Option Addr} {sl_heap_of : Array (Option Value)} {oc_heap_of kV_heap_of dc_heap_of pm_heap_of cd_heap_of ct_heap_of : Value} {od_z___init__ an_z___init__ : Option Addr} {sl_z___init__ : Array (Option Value)} {oc_z___init__ kV_z___init__ dc_z___init__ pm_z___init__ cd_z___init__ ct_z___init__ : Value} {od_z___eq__ an_z___eq__ : Option Addr} {sl_z___eq__ : Array (Option Value)} {oc_z___eq__ kV_z___eq__ dc_z___eq__ pm_z___eq__ cd_z___eq__ ct_z___eq__ : Value} {od_sift_up an_sift_up : Option Addr} {sl_sift_up : Array (Option Value)} {oc_sift_up  dc_sift_up pm_sift_up cd_sift_up ct_sift_up : Value} {od_sift_down an_sift_down : Option Addr} {sl_sift_down : Array (Option Value)} {oc_sift_down  dc_sift_down pm_sift_down cd_sift_down ct_sift_down : Value} {od_least_child an_least_child : Option Addr} {sl_least_child : Array (Option Value)} {oc_least_child kV_least_child dc_least_child pm_least_child  ct_least_child : Value} {od_u___init__ an_u___init__ : Option Addr} {sl_u___init__ : Array (Option Value)} {oc_u___init__ kV_u___init__ dc_u___init__ pm_u___init__ cd_u___init__ ct_u___init__ : Value} {od_u___eq__ an_u___eq__ : Option Addr} {sl_u___eq__ : Array (Option Value)} {oc_u___eq__ kV_u___eq__ dc_u___eq__ pm_u___eq__ cd_u___eq__ ct_u___eq__ : Value} {od_push an_push : Option Addr} {sl_push : Array (Option Value)} {oc_push  dc_push pm_push cd_push ct_push : Value} {od_take an_take : Option Addr} {sl_take : Array (Option Value)} {oc_take  dc_take pm_take cd_take ct_take : Value} {od_build an_build : Option Addr} {sl_build : Array (Option Value)} {oc_build  dc_build pm_build cd_build ct_build : Value} {od_filled_heap_of an_filled_heap_of : Option Addr} {sl_filled_heap_of : Array (Option Value)} {oc_filled_heap_of kV_filled_heap_of dc_filled_heap_of pm_filled_heap_of cd_filled_heap_of ct_filled_heap_of : Value} {od_check_filled an_check_filled : Option Addr} {sl_check_filled : Array (Option Value)} {oc_check_filled kV_check_filled dc_check_filled pm_check_filled cd_check_filled ct_check_filled : Value} {od__law_number an__law_number : Option Addr} {sl__law_number : Array (Option Value)} {oc__law_number kV__law_number dc__law_number pm__law_number cd__law_number ct__law_number : Value} {od__law_take an__law_take : Option Addr} {sl__law_take : Array (Option Value)} {oc__law_take kV__law_take dc__law_take pm__law_take cd__law_take ct__law_take : Value} {od__law_pick an__law_pick : Option Addr} {sl__law_pick : Array (Option Value)} {oc__law_pick kV__law_pick dc__law_pick pm__law_pick cd__law_pick ct__law_pick : Value} {od__law_arms an__law_arms : Option Addr} {sl__law_arms : Array (Option Value)} {oc__law_arms kV__law_arms dc__law_arms pm__law_arms cd__law_arms ct__law_arms : Value} {od__law_keys an__law_keys : Option Addr} {sl__law_keys : Array (Option Value)} {oc__law_keys kV__law_keys dc__law_keys pm__law_keys cd__law_keys ct__law_keys : Value} {od_law an_law : Option Addr} {sl_law : Array (Option Value)} {oc_law kV_law dc_law pm_law cd_law ct_law : Value}
    (hfa : mg "law" = some (.ref fa))
    (aC : PySem.W.nsIn K mainGlobals "Tree" = some (some (.ref C)))
    (aCS : PySem.W.nsIn K mainGlobals "Sift" = some (some (.ref CS)))
    (aCB : PySem.W.nsIn K mainGlobals "Built" = some (some (.ref CB)))
    (a_is_integer : PySem.W.nsIn K mainGlobals "is_integer" = some (some (.ref f_is_integer)))
    (l_is_integer : K.lookup f_is_integer = some ⟨oc_is_integer, od_is_integer, .func (PySem.W.fnOf "is_integer" "is_integer" (defArgs s_is_integer) (defBody s_is_integer) (defScope s_is_integer) .none kV_is_integer dc_is_integer pm_is_integer an_is_integer cd_is_integer ct_is_integer), sl_is_integer⟩)
    (c_is_integer : PySem.W.codeIn K cd_is_integer "is_integer" = true)
    (k_is_integer : PySem.W.keepIn K (.ref f_is_integer) = true)
    (a_is_integer_from : PySem.W.nsIn K mainGlobals "is_integer_from" = some (some (.ref f_is_integer_from)))
    (l_is_integer_from : K.lookup f_is_integer_from = some ⟨oc_is_integer_from, od_is_integer_from, .func (PySem.W.fnOf "is_integer_from" "is_integer_from" (defArgs s_is_integer_from) (defBody s_is_integer_from) (defScope s_is_integer_from) .none kV_is_integer_from dc_is_integer_from pm_is_integer_from an_is_integer_from cd_is_integer_from ct_is_integer_from), sl_is_integer_from⟩)
    (c_is_integer_from : PySem.W.codeIn K cd_is_integer_from "is_integer_from" = true)
    (k_is_integer_from : PySem.W.keepIn K (.ref f_is_integer_from) = true)
    (a_is_key : PySem.W.nsIn K mainGlobals "is_key" = some (some (.ref f_is_key)))
    (l_is_key : K.lookup f_is_key = some ⟨oc_is_key, od_is_key, .func (PySem.W.fnOf "is_key" "is_key" (defArgs s_is_key) (defBody s_is_key) (defScope s_is_key) .none kV_is_key dc_is_key pm_is_key an_is_key cd_is_key ct_is_key), sl_is_key⟩)
    (c_is_key : PySem.W.codeIn K cd_is_key "is_key" = true)
    (k_is_key : PySem.W.keepIn K (.ref f_is_key) = true)
    (a_check_arms : PySem.W.nsIn K mainGlobals "check_arms" = some (some (.ref f_check_arms)))
    (l_check_arms : K.lookup f_check_arms = some ⟨oc_check_arms, od_check_arms, .func (PySem.W.fnOf "check_arms" "check_arms" (defArgs s_check_arms) (defBody s_check_arms) (defScope s_check_arms) .none kV_check_arms dc_check_arms pm_check_arms an_check_arms cd_check_arms ct_check_arms), sl_check_arms⟩)
    (c_check_arms : PySem.W.codeIn K cd_check_arms "check_arms" = true)
    (k_check_arms : PySem.W.keepIn K (.ref f_check_arms) = true)
    (a_check_many : PySem.W.nsIn K mainGlobals "check_many" = some (some (.ref f_check_many)))
    (l_check_many : K.lookup f_check_many = some ⟨oc_check_many, od_check_many, .func (PySem.W.fnOf "check_many" "check_many" (defArgs s_check_many) (defBody s_check_many) (defScope s_check_many) .none kV_check_many dc_check_many pm_check_many an_check_many cd_check_many ct_check_many), sl_check_many⟩)
    (c_check_many : PySem.W.codeIn K cd_check_many "check_many" = true)
    (k_check_many : PySem.W.keepIn K (.ref f_check_many) = true)
    (a_check_place : PySem.W.nsIn K mainGlobals "check_place" = some (some (.ref f_check_place)))
    (l_check_place : K.lookup f_check_place = some ⟨oc_check_place, od_check_place, .func (PySem.W.fnOf "check_place" "check_place" (defArgs s_check_place) (defBody s_check_place) (defScope s_check_place) .none kV_check_place dc_check_place pm_check_place an_check_place cd_check_place ct_check_place), sl_check_place⟩)
    (c_check_place : PySem.W.codeIn K cd_check_place "check_place" = true)
    (k_check_place : PySem.W.keepIn K (.ref f_check_place) = true)
    (a_check_key : PySem.W.nsIn K mainGlobals "check_key" = some (some (.ref f_check_key)))
    (l_check_key : K.lookup f_check_key = some ⟨oc_check_key, od_check_key, .func (PySem.W.fnOf "check_key" "check_key" (defArgs s_check_key) (defBody s_check_key) (defScope s_check_key) .none kV_check_key dc_check_key pm_check_key an_check_key cd_check_key ct_check_key), sl_check_key⟩)
    (c_check_key : PySem.W.codeIn K cd_check_key "check_key" = true)
    (k_check_key : PySem.W.keepIn K (.ref f_check_key) = true)
    (a_row_of : PySem.W.nsIn K mainGlobals "row_of" = some (some (.ref f_row_of)))
    (l_row_of : K.lookup f_row_of = some ⟨oc_row_of, od_row_of, .func (PySem.W.fnOf "row_of" "row_of" (defArgs s_row_of) (defBody s_row_of) (defScope s_row_of) .none kV_row_of dc_row_of pm_row_of an_row_of cd_row_of ct_row_of), sl_row_of⟩)
    (c_row_of : PySem.W.codeIn K cd_row_of "row_of" = true)
    (k_row_of : PySem.W.keepIn K (.ref f_row_of) = true)
    (a_t___init__ : PySem.W.findIn K (.ref C) "__init__" = some (some (.ref f_t___init__)))
    (i_t___init__ : PySem.W.isFn K (.ref f_t___init__) = true)
    (l_t___init__ : K.lookup f_t___init__ = some ⟨oc_t___init__, od_t___init__, .func (PySem.W.fnOf "__init__" "Tree.__init__" (defArgs s_t___init__) (defBody s_t___init__) (defScope s_t___init__) .none (.ref D_t___init__) dc_t___init__ pm_t___init__ an_t___init__ cd_t___init__ ct_t___init__), sl_t___init__⟩)
    (c_t___init__ : PySem.W.codeIn K cd_t___init__ "Tree.__init__" = true)
    (k_t___init__ : PySem.W.keepIn K (.ref f_t___init__) = true)
    {tk_t___init__ : Tok}
    (w_t___init__ : PySem.W.nsIn K D_t___init__ "arms" = some (some (.int 2 tk_t___init__)))
    (a_t_of : PySem.W.findCls K (.ref C) (.type "type") "of" = some (.get (.builtin "classmethod.__get__") (.ref po) .none (.ref C)))
    {rest_of : List Value}
    (r_t_of : PySem.W.recIn K po "classmethod" = some (.ref f_t_of :: rest_of))
    (n_t_of : PySem.W.fnIn K f_t_of = true)
    (l_t_of : K.lookup f_t_of = some ⟨oc_t_of, od_t_of, .func (PySem.W.fnOf "of" "Tree.of" (defArgs s_t_of) (defBody s_t_of) (defScope s_t_of) .none (.ref D_t_of) dc_t_of pm_t_of an_t_of cd_t_of ct_t_of), sl_t_of⟩)
    (c_t_of : PySem.W.codeIn K cd_t_of "Tree.of" = true)
    (k_t_of : PySem.W.keepIn K (.ref f_t_of) = true)
    {tk_t_of : Tok}
    (w_t_of : PySem.W.nsIn K D_t_of "arms" = some (some (.int 2 tk_t_of)))
    (a_t___len__ : PySem.W.findIn K (.ref C) "__len__" = some (some (.ref f_t___len__)))
    (i_t___len__ : PySem.W.isFn K (.ref f_t___len__) = true)
    (n_t___len__ : PySem.W.fnIn K f_t___len__ = true)
    (l_t___len__ : K.lookup f_t___len__ = some ⟨oc_t___len__, od_t___len__, .func (PySem.W.fnOf "__len__" "Tree.__len__" (defArgs s_t___len__) (defBody s_t___len__) (defScope s_t___len__) .none kV_t___len__ dc_t___len__ pm_t___len__ an_t___len__ cd_t___len__ ct_t___len__), sl_t___len__⟩)
    (c_t___len__ : PySem.W.codeIn K cd_t___len__ "Tree.__len__" = true)
    (k_t___len__ : PySem.W.keepIn K (.ref f_t___len__) = true)
    (a_t___iter__ : PySem.W.findIn K (.ref C) "__iter__" = some (some (.ref f_t___iter__)))
    (i_t___iter__ : PySem.W.isFn K (.ref f_t___iter__) = true)
    (n_t___iter__ : PySem.W.fnIn K f_t___iter__ = true)
    (l_t___iter__ : K.lookup f_t___iter__ = some ⟨oc_t___iter__, od_t___iter__, .func (PySem.W.fnOf "__iter__" "Tree.__iter__" (defArgs s_t___iter__) (defBody s_t___iter__) (defScope s_t___iter__) .none kV_t___iter__ dc_t___iter__ pm_t___iter__ an_t___iter__ cd_t___iter__ ct_t___iter__), sl_t___iter__⟩)
    (c_t___iter__ : PySem.W.codeIn K cd_t___iter__ "Tree.__iter__" = true)
    (k_t___iter__ : PySem.W.keepIn K (.ref f_t___iter__) = true)
    (a_t___getitem__ : PySem.W.findIn K (.ref C) "__getitem__" = some (some (.ref f_t___getitem__)))
    (i_t___getitem__ : PySem.W.isFn K (.ref f_t___getitem__) = true)
    (n_t___getitem__ : PySem.W.fnIn K f_t___getitem__ = true)
    (l_t___getitem__ : K.lookup f_t___getitem__ = some ⟨oc_t___getitem__, od_t___getitem__, .func (PySem.W.fnOf "__getitem__" "Tree.__getitem__" (defArgs s_t___getitem__) (defBody s_t___getitem__) (defScope s_t___getitem__) .none kV_t___getitem__ dc_t___getitem__ pm_t___getitem__ an_t___getitem__ cd_t___getitem__ ct_t___getitem__), sl_t___getitem__⟩)
    (c_t___getitem__ : PySem.W.codeIn K cd_t___getitem__ "Tree.__getitem__" = true)
    (k_t___getitem__ : PySem.W.keepIn K (.ref f_t___getitem__) = true)
    (a_t_parent : PySem.W.findIn K (.ref C) "parent" = some (some (.ref f_t_parent)))
    (i_t_parent : PySem.W.isFn K (.ref f_t_parent) = true)
    (l_t_parent : K.lookup f_t_parent = some ⟨oc_t_parent, od_t_parent, .func (PySem.W.fnOf "parent" "Tree.parent" (defArgs s_t_parent) (defBody s_t_parent) (defScope s_t_parent) .none kV_t_parent dc_t_parent pm_t_parent an_t_parent cd_t_parent ct_t_parent), sl_t_parent⟩)
    (c_t_parent : PySem.W.codeIn K cd_t_parent "Tree.parent" = true)
    (k_t_parent : PySem.W.keepIn K (.ref f_t_parent) = true)
    (a_t_way_to : PySem.W.findIn K (.ref C) "way_to" = some (some (.ref f_t_way_to)))
    (i_t_way_to : PySem.W.isFn K (.ref f_t_way_to) = true)
    (l_t_way_to : K.lookup f_t_way_to = some ⟨oc_t_way_to, od_t_way_to, .func (PySem.W.fnOf "way_to" "Tree.way_to" (defArgs s_t_way_to) (defBody s_t_way_to) (defScope s_t_way_to) .none kV_t_way_to dc_t_way_to pm_t_way_to an_t_way_to cd_t_way_to ct_t_way_to), sl_t_way_to⟩)
    (c_t_way_to : PySem.W.codeIn K cd_t_way_to "Tree.way_to" = true)
    (k_t_way_to : PySem.W.keepIn K (.ref f_t_way_to) = true)
    (a_t_subtree : PySem.W.findIn K (.ref C) "subtree" = some (some (.ref f_t_subtree)))
    (i_t_subtree : PySem.W.isFn K (.ref f_t_subtree) = true)
    (l_t_subtree : K.lookup f_t_subtree = some ⟨oc_t_subtree, od_t_subtree, .func (PySem.W.fnOf "subtree" "Tree.subtree" (defArgs s_t_subtree) (defBody s_t_subtree) (defScope s_t_subtree) .none kV_t_subtree dc_t_subtree pm_t_subtree an_t_subtree cd_t_subtree ct_t_subtree), sl_t_subtree⟩)
    (c_t_subtree : PySem.W.codeIn K cd_t_subtree "Tree.subtree" = true)
    (k_t_subtree : PySem.W.keepIn K (.ref f_t_subtree) = true)
    (a_faults : PySem.W.nsIn K mainGlobals "faults" = some (some (.ref f_faults)))
    (l_faults : K.lookup f_faults = some ⟨oc_faults, od_faults, .func (PySem.W.fnOf "faults" "faults" (defArgs s_faults) (defBody s_faults) (defScope s_faults) .none (.ref D_faults) dc_faults pm_faults an_faults cd_faults ct_faults), sl_faults⟩)
    (c_faults : PySem.W.codeIn K cd_faults "faults" = true)
    (k_faults : PySem.W.keepIn K (.ref f_faults) = true)
    {tk_faults : Tok}
    (w_faults : PySem.W.nsIn K D_faults "arms" = some (some (.int 2 tk_faults)))
    (a_falls : PySem.W.nsIn K mainGlobals "falls" = some (some (.ref f_falls)))
    (l_falls : K.lookup f_falls = some ⟨oc_falls, od_falls, .func (PySem.W.fnOf "falls" "falls" (defArgs s_falls) (defBody s_falls) (defScope s_falls) .none (.ref D_falls) dc_falls pm_falls an_falls cd_falls ct_falls), sl_falls⟩)
    (c_falls : PySem.W.codeIn K cd_falls "falls" = true)
    (k_falls : PySem.W.keepIn K (.ref f_falls) = true)
    {tk_falls : Tok}
    (w_falls : PySem.W.nsIn K D_falls "arms" = some (some (.int 2 tk_falls)))
    (a_heap_of : PySem.W.nsIn K mainGlobals "heap_of" = some (some (.ref f_heap_of)))
    (l_heap_of : K.lookup f_heap_of = some ⟨oc_heap_of, od_heap_of, .func (PySem.W.fnOf "heap_of" "heap_of" (defArgs s_heap_of) (defBody s_heap_of) (defScope s_heap_of) .none kV_heap_of dc_heap_of pm_heap_of an_heap_of cd_heap_of ct_heap_of), sl_heap_of⟩)
    (c_heap_of : PySem.W.codeIn K cd_heap_of "heap_of" = true)
    (k_heap_of : PySem.W.keepIn K (.ref f_heap_of) = true)
    (a_z___init__ : PySem.W.findIn K (.ref CS) "__init__" = some (some (.ref f_z___init__)))
    (i_z___init__ : PySem.W.isFn K (.ref f_z___init__) = true)
    (l_z___init__ : K.lookup f_z___init__ = some ⟨oc_z___init__, od_z___init__, .func (PySem.W.fnOf "__init__" "Sift.__init__" (defArgs s_z___init__) (defBody s_z___init__) (defScope s_z___init__) .none kV_z___init__ dc_z___init__ pm_z___init__ an_z___init__ cd_z___init__ ct_z___init__), sl_z___init__⟩)
    (c_z___init__ : PySem.W.codeIn K cd_z___init__ "Sift.__init__" = true)
    (k_z___init__ : PySem.W.keepIn K (.ref f_z___init__) = true)
    (a_z___eq__ : PySem.W.findIn K (.ref CS) "__eq__" = some (some (.ref f_z___eq__)))
    (i_z___eq__ : PySem.W.isFn K (.ref f_z___eq__) = true)
    (l_z___eq__ : K.lookup f_z___eq__ = some ⟨oc_z___eq__, od_z___eq__, .func (PySem.W.fnOf "__eq__" "Sift.__eq__" (defArgs s_z___eq__) (defBody s_z___eq__) (defScope s_z___eq__) .none kV_z___eq__ dc_z___eq__ pm_z___eq__ an_z___eq__ cd_z___eq__ ct_z___eq__), sl_z___eq__⟩)
    (c_z___eq__ : PySem.W.codeIn K cd_z___eq__ "Sift.__eq__" = true)
    (k_z___eq__ : PySem.W.keepIn K (.ref f_z___eq__) = true)
    (a_sift_up : PySem.W.nsIn K mainGlobals "sift_up" = some (some (.ref f_sift_up)))
    (l_sift_up : K.lookup f_sift_up = some ⟨oc_sift_up, od_sift_up, .func (PySem.W.fnOf "sift_up" "sift_up" (defArgs s_sift_up) (defBody s_sift_up) (defScope s_sift_up) .none (.ref D_sift_up) dc_sift_up pm_sift_up an_sift_up cd_sift_up ct_sift_up), sl_sift_up⟩)
    (c_sift_up : PySem.W.codeIn K cd_sift_up "sift_up" = true)
    (k_sift_up : PySem.W.keepIn K (.ref f_sift_up) = true)
    {tk_sift_up : Tok}
    (w_sift_up : PySem.W.nsIn K D_sift_up "arms" = some (some (.int 2 tk_sift_up)))
    (a_sift_down : PySem.W.nsIn K mainGlobals "sift_down" = some (some (.ref f_sift_down)))
    (l_sift_down : K.lookup f_sift_down = some ⟨oc_sift_down, od_sift_down, .func (PySem.W.fnOf "sift_down" "sift_down" (defArgs s_sift_down) (defBody s_sift_down) (defScope s_sift_down) .none (.ref D_sift_down) dc_sift_down pm_sift_down an_sift_down cd_sift_down ct_sift_down), sl_sift_down⟩)
    (c_sift_down : PySem.W.codeIn K cd_sift_down "sift_down" = true)
    (k_sift_down : PySem.W.keepIn K (.ref f_sift_down) = true)
    {tk_sift_down : Tok}
    (w_sift_down : PySem.W.nsIn K D_sift_down "arms" = some (some (.int 2 tk_sift_down)))
    (a_least_child : PySem.W.nsIn K mainGlobals "least_child" = some (some (.ref f_least_child)))
    (l_least_child : K.lookup f_least_child = some ⟨oc_least_child, od_least_child, .func (PySem.W.fnOf "least_child" "least_child" (defArgs s_least_child) (defBody s_least_child) (defScope s_least_child) .none kV_least_child dc_least_child pm_least_child an_least_child (.ref cc_least_child) ct_least_child), sl_least_child⟩)
    (c_least_child : PySem.W.codeIn K (.ref cc_least_child) "least_child" = true)
    (k_least_child : PySem.W.keepIn K (.ref f_least_child) = true)
    (a_u___init__ : PySem.W.findIn K (.ref CB) "__init__" = some (some (.ref f_u___init__)))
    (i_u___init__ : PySem.W.isFn K (.ref f_u___init__) = true)
    (l_u___init__ : K.lookup f_u___init__ = some ⟨oc_u___init__, od_u___init__, .func (PySem.W.fnOf "__init__" "Built.__init__" (defArgs s_u___init__) (defBody s_u___init__) (defScope s_u___init__) .none kV_u___init__ dc_u___init__ pm_u___init__ an_u___init__ cd_u___init__ ct_u___init__), sl_u___init__⟩)
    (c_u___init__ : PySem.W.codeIn K cd_u___init__ "Built.__init__" = true)
    (k_u___init__ : PySem.W.keepIn K (.ref f_u___init__) = true)
    (a_u___eq__ : PySem.W.findIn K (.ref CB) "__eq__" = some (some (.ref f_u___eq__)))
    (i_u___eq__ : PySem.W.isFn K (.ref f_u___eq__) = true)
    (l_u___eq__ : K.lookup f_u___eq__ = some ⟨oc_u___eq__, od_u___eq__, .func (PySem.W.fnOf "__eq__" "Built.__eq__" (defArgs s_u___eq__) (defBody s_u___eq__) (defScope s_u___eq__) .none kV_u___eq__ dc_u___eq__ pm_u___eq__ an_u___eq__ cd_u___eq__ ct_u___eq__), sl_u___eq__⟩)
    (c_u___eq__ : PySem.W.codeIn K cd_u___eq__ "Built.__eq__" = true)
    (k_u___eq__ : PySem.W.keepIn K (.ref f_u___eq__) = true)
    (a_push : PySem.W.nsIn K mainGlobals "push" = some (some (.ref f_push)))
    (l_push : K.lookup f_push = some ⟨oc_push, od_push, .func (PySem.W.fnOf "push" "push" (defArgs s_push) (defBody s_push) (defScope s_push) .none (.ref D_push) dc_push pm_push an_push cd_push ct_push), sl_push⟩)
    (c_push : PySem.W.codeIn K cd_push "push" = true)
    (k_push : PySem.W.keepIn K (.ref f_push) = true)
    {tk_push : Tok}
    (w_push : PySem.W.nsIn K D_push "arms" = some (some (.int 2 tk_push)))
    (a_take : PySem.W.nsIn K mainGlobals "take" = some (some (.ref f_take)))
    (l_take : K.lookup f_take = some ⟨oc_take, od_take, .func (PySem.W.fnOf "take" "take" (defArgs s_take) (defBody s_take) (defScope s_take) .none (.ref D_take) dc_take pm_take an_take cd_take ct_take), sl_take⟩)
    (c_take : PySem.W.codeIn K cd_take "take" = true)
    (k_take : PySem.W.keepIn K (.ref f_take) = true)
    {tk_take : Tok}
    (w_take : PySem.W.nsIn K D_take "arms" = some (some (.int 2 tk_take)))
    (a_build : PySem.W.nsIn K mainGlobals "build" = some (some (.ref f_build)))
    (l_build : K.lookup f_build = some ⟨oc_build, od_build, .func (PySem.W.fnOf "build" "build" (defArgs s_build) (defBody s_build) (defScope s_build) .none (.ref D_build) dc_build pm_build an_build cd_build ct_build), sl_build⟩)
    (c_build : PySem.W.codeIn K cd_build "build" = true)
    (k_build : PySem.W.keepIn K (.ref f_build) = true)
    {tk_build : Tok}
    (w_build : PySem.W.nsIn K D_build "arms" = some (some (.int 2 tk_build)))
    (a_filled_heap_of : PySem.W.nsIn K mainGlobals "filled_heap_of" = some (some (.ref f_filled_heap_of)))
    (l_filled_heap_of : K.lookup f_filled_heap_of = some ⟨oc_filled_heap_of, od_filled_heap_of, .func (PySem.W.fnOf "filled_heap_of" "filled_heap_of" (defArgs s_filled_heap_of) (defBody s_filled_heap_of) (defScope s_filled_heap_of) .none kV_filled_heap_of dc_filled_heap_of pm_filled_heap_of an_filled_heap_of cd_filled_heap_of ct_filled_heap_of), sl_filled_heap_of⟩)
    (c_filled_heap_of : PySem.W.codeIn K cd_filled_heap_of "filled_heap_of" = true)
    (k_filled_heap_of : PySem.W.keepIn K (.ref f_filled_heap_of) = true)
    (a_check_filled : PySem.W.nsIn K mainGlobals "check_filled" = some (some (.ref f_check_filled)))
    (l_check_filled : K.lookup f_check_filled = some ⟨oc_check_filled, od_check_filled, .func (PySem.W.fnOf "check_filled" "check_filled" (defArgs s_check_filled) (defBody s_check_filled) (defScope s_check_filled) .none kV_check_filled dc_check_filled pm_check_filled an_check_filled cd_check_filled ct_check_filled), sl_check_filled⟩)
    (c_check_filled : PySem.W.codeIn K cd_check_filled "check_filled" = true)
    (k_check_filled : PySem.W.keepIn K (.ref f_check_filled) = true)
    (a__law_number : PySem.W.nsIn K mainGlobals "_law_number" = some (some (.ref f__law_number)))
    (l__law_number : K.lookup f__law_number = some ⟨oc__law_number, od__law_number, .func (PySem.W.fnOf "_law_number" "_law_number" (defArgs s__law_number) (defBody s__law_number) (defScope s__law_number) .none kV__law_number dc__law_number pm__law_number an__law_number cd__law_number ct__law_number), sl__law_number⟩)
    (c__law_number : PySem.W.codeIn K cd__law_number "_law_number" = true)
    (k__law_number : PySem.W.keepIn K (.ref f__law_number) = true)
    (a__law_take : PySem.W.nsIn K mainGlobals "_law_take" = some (some (.ref f__law_take)))
    (l__law_take : K.lookup f__law_take = some ⟨oc__law_take, od__law_take, .func (PySem.W.fnOf "_law_take" "_law_take" (defArgs s__law_take) (defBody s__law_take) (defScope s__law_take) .none kV__law_take dc__law_take pm__law_take an__law_take cd__law_take ct__law_take), sl__law_take⟩)
    (c__law_take : PySem.W.codeIn K cd__law_take "_law_take" = true)
    (k__law_take : PySem.W.keepIn K (.ref f__law_take) = true)
    (a__law_pick : PySem.W.nsIn K mainGlobals "_law_pick" = some (some (.ref f__law_pick)))
    (l__law_pick : K.lookup f__law_pick = some ⟨oc__law_pick, od__law_pick, .func (PySem.W.fnOf "_law_pick" "_law_pick" (defArgs s__law_pick) (defBody s__law_pick) (defScope s__law_pick) .none kV__law_pick dc__law_pick pm__law_pick an__law_pick cd__law_pick ct__law_pick), sl__law_pick⟩)
    (c__law_pick : PySem.W.codeIn K cd__law_pick "_law_pick" = true)
    (k__law_pick : PySem.W.keepIn K (.ref f__law_pick) = true)
    (a__law_arms : PySem.W.nsIn K mainGlobals "_law_arms" = some (some (.ref f__law_arms)))
    (l__law_arms : K.lookup f__law_arms = some ⟨oc__law_arms, od__law_arms, .func (PySem.W.fnOf "_law_arms" "_law_arms" (defArgs s__law_arms) (defBody s__law_arms) (defScope s__law_arms) .none kV__law_arms dc__law_arms pm__law_arms an__law_arms cd__law_arms ct__law_arms), sl__law_arms⟩)
    (c__law_arms : PySem.W.codeIn K cd__law_arms "_law_arms" = true)
    (k__law_arms : PySem.W.keepIn K (.ref f__law_arms) = true)
    (a__law_keys : PySem.W.nsIn K mainGlobals "_law_keys" = some (some (.ref f__law_keys)))
    (l__law_keys : K.lookup f__law_keys = some ⟨oc__law_keys, od__law_keys, .func (PySem.W.fnOf "_law_keys" "_law_keys" (defArgs s__law_keys) (defBody s__law_keys) (defScope s__law_keys) .none kV__law_keys dc__law_keys pm__law_keys an__law_keys cd__law_keys ct__law_keys), sl__law_keys⟩)
    (c__law_keys : PySem.W.codeIn K cd__law_keys "_law_keys" = true)
    (k__law_keys : PySem.W.keepIn K (.ref f__law_keys) = true)
    (a_law : PySem.W.nsIn K mainGlobals "law" = some (some (.ref f_law)))
    (l_law : K.lookup f_law = some ⟨oc_law, od_law, .func (PySem.W.fnOf "law" "law" (defArgs s_law) (defBody s_law) (defScope s_law) .none kV_law dc_law pm_law an_law cd_law ct_law), sl_law⟩)
    (c_law : PySem.W.codeIn K cd_law "law" = true)
    (k_law : PySem.W.keepIn K (.ref f_law) = true)
    {tc_MOST_ARMS : Tok}
    (q_MOST_ARMS : PySem.W.nsIn K mainGlobals "MOST_ARMS" = some (some (.int 4 tc_MOST_ARMS)))
    {tc_MOST_PLACES : Tok}
    (q_MOST_PLACES : PySem.W.nsIn K mainGlobals "MOST_PLACES" = some (some (.int 12 tc_MOST_PLACES)))
    {tc_GREATEST_KEY : Tok}
    (q_GREATEST_KEY : PySem.W.nsIn K mainGlobals "GREATEST_KEY" = some (some (.int 1000000000 tc_GREATEST_KEY)))
    (z_isinstance : PySem.W.nsIn K mainGlobals "isinstance" = some none)
    (z_int : PySem.W.nsIn K mainGlobals "int" = some none)
    (z_bool : PySem.W.nsIn K mainGlobals "bool" = some none)
    (z_len : PySem.W.nsIn K mainGlobals "len" = some none)
    (z_tuple : PySem.W.nsIn K mainGlobals "tuple" = some none)
    (z_list : PySem.W.nsIn K mainGlobals "list" = some none)
    (z_range : PySem.W.nsIn K mainGlobals "range" = some none)
    (z_enumerate : PySem.W.nsIn K mainGlobals "enumerate" = some none)
    (z_reversed : PySem.W.nsIn K mainGlobals "reversed" = some none)
    (z_min : PySem.W.nsIn K mainGlobals "min" = some none)
    (z_sum : PySem.W.nsIn K mainGlobals "sum" = some none)
    (z_iter : PySem.W.nsIn K mainGlobals "iter" = some none)
    (z_any : PySem.W.nsIn K mainGlobals "any" = some none)
    (z_sorted : PySem.W.nsIn K mainGlobals "sorted" = some none)
    (pg : PySem.W.plainGet K C Str.empty = true)
    (hd : PySem.W.hasDictIn K C = true)
    (po_ : PySem.W.plainOver K C = true)
    (sa : PySem.W.findIn K (.ref C) "__setattr__" = some (some (.builtin "object.__setattr__")))
    (na_nMany : PySem.W.findIn K (.ref C) "many" = some none)
    (na_nArms : PySem.W.findIn K (.ref C) "arms" = some none)
    (na_nPl : PySem.W.findIn K (.ref C) "_places" = some none)
    (mk : PySem.W.makesIn K C = true)
    (kc : PySem.W.keepIn K (.ref C) = true)
    (rd : PySem.W.readsIn K C (.type "type") = true)
    (ga : PySem.W.specialIn K (.ref C) "__getattribute__" = some (some (.builtin "type.__getattribute__")))
    (pgS : PySem.W.plainGet K CS Str.empty = true)
    (hdS : PySem.W.hasDictIn K CS = true)
    (po_S : PySem.W.plainOver K CS = true)
    (saS : PySem.W.findIn K (.ref CS) "__setattr__" = some (some (.builtin "object.__setattr__")))
    (na_nRow : PySem.W.findIn K (.ref CS) "row" = some none)
    (na_nWay : PySem.W.findIn K (.ref CS) "way" = some none)
    (na_nLooks : PySem.W.findIn K (.ref CS) "looks" = some none)
    (mkS : PySem.W.makesIn K CS = true)
    (kcS : PySem.W.keepIn K (.ref CS) = true)
    (eneS : PySem.W.findIn K (.ref CS) "__ne__" = some (some (.builtin "object.__ne__")))
    (eobS : PySem.W.subIn K (.ref CS) (.type "object") = some true)
    (eniS : PySem.W.subIn K (.type "int") (.ref CS) = some false)
    (entS : PySem.W.subIn K (.type "tuple") (.ref CS) = some false)
    (kaS : PySem.W.findIn K (.ref CS) "__class__" = some (some (.builtin "object.__class__")))
    (knS : PySem.W.specialIn K (.builtin "object.__class__") "__get__" = some (some (.builtin "getset_descriptor.__get__")))
    (ktkS : PySem.W.takesIn K (.builtin "object.__class__") = some true)
    (kmS : PySem.W.mroIn K CS (.type "object") = some true)
    (kclS : PySem.W.isClsIn K CS = true)
    (ktyS : PySem.W.typeIn K (.ref CS) = some (.type "type"))
    (pgB : PySem.W.plainGet K CB Str.empty = true)
    (hdB : PySem.W.hasDictIn K CB = true)
    (po_B : PySem.W.plainOver K CB = true)
    (saB : PySem.W.findIn K (.ref CB) "__setattr__" = some (some (.builtin "object.__setattr__")))
    (na_bRow : PySem.W.findIn K (.ref CB) "row" = some none)
    (na_bStops : PySem.W.findIn K (.ref CB) "stops" = some none)
    (na_bChanges : PySem.W.findIn K (.ref CB) "changes" = some none)
    (na_bLooks : PySem.W.findIn K (.ref CB) "looks" = some none)
    (mkB : PySem.W.makesIn K CB = true)
    (kcB : PySem.W.keepIn K (.ref CB) = true)
    (eneB : PySem.W.findIn K (.ref CB) "__ne__" = some (some (.builtin "object.__ne__")))
    (eobB : PySem.W.subIn K (.ref CB) (.type "object") = some true)
    (eniB : PySem.W.subIn K (.type "int") (.ref CB) = some false)
    (entB : PySem.W.subIn K (.type "tuple") (.ref CB) = some false)
    (kaB : PySem.W.findIn K (.ref CB) "__class__" = some (some (.builtin "object.__class__")))
    (knB : PySem.W.specialIn K (.builtin "object.__class__") "__get__" = some (some (.builtin "getset_descriptor.__get__")))
    (ktkB : PySem.W.takesIn K (.builtin "object.__class__") = some true)
    (kmB : PySem.W.mroIn K CB (.type "object") = some true)
    (kclB : PySem.W.isClsIn K CB = true)
    (ktyB : PySem.W.typeIn K (.ref CB) = some (.type "type"))
    (hT_least_child : h.get? PP_least_child = some (PySem.W.tabObj #[])) (hC_least_child : PySem.W.codeHdIn K cc_least_child PP_least_child = true) (hN_least_child : K.lookup PP_least_child = none)
    : LamX.LawAtS l w K CX0 11 63 "script" mg fa h := by
  have e := hfa.symm.trans (PySem.W.mg_of X G a_law)
  cases e
  let A : Ad := { f_is_integer := f_is_integer, d_is_integer := (PySem.W.fnOf "is_integer" "is_integer" (defArgs s_is_integer) (defBody s_is_integer) (defScope s_is_integer) .none kV_is_integer dc_is_integer pm_is_integer an_is_integer cd_is_integer ct_is_integer), f_is_integer_from := f_is_integer_from, d_is_integer_from := (PySem.W.fnOf "is_integer_from" "is_integer_from" (defArgs s_is_integer_from) (defBody s_is_integer_from) (defScope s_is_integer_from) .none kV_is_integer_from dc_is_integer_from pm_is_integer_from an_is_integer_from cd_is_integer_from ct_is_integer_from), f_is_key := f_is_key, d_is_key := (PySem.W.fnOf "is_key" "is_key" (defArgs s_is_key) (defBody s_is_key) (defScope s_is_key) .none kV_is_key dc_is_key pm_is_key an_is_key cd_is_key ct_is_key), f_check_arms := f_check_arms, d_check_arms := (PySem.W.fnOf "check_arms" "check_arms" (defArgs s_check_arms) (defBody s_check_arms) (defScope s_check_arms) .none kV_check_arms dc_check_arms pm_check_arms an_check_arms cd_check_arms ct_check_arms), f_check_many := f_check_many, d_check_many := (PySem.W.fnOf "check_many" "check_many" (defArgs s_check_many) (defBody s_check_many) (defScope s_check_many) .none kV_check_many dc_check_many pm_check_many an_check_many cd_check_many ct_check_many), f_check_place := f_check_place, d_check_place := (PySem.W.fnOf "check_place" "check_place" (defArgs s_check_place) (defBody s_check_place) (defScope s_check_place) .none kV_check_place dc_check_place pm_check_place an_check_place cd_check_place ct_check_place), f_check_key := f_check_key, d_check_key := (PySem.W.fnOf "check_key" "check_key" (defArgs s_check_key) (defBody s_check_key) (defScope s_check_key) .none kV_check_key dc_check_key pm_check_key an_check_key cd_check_key ct_check_key), f_row_of := f_row_of, d_row_of := (PySem.W.fnOf "row_of" "row_of" (defArgs s_row_of) (defBody s_row_of) (defScope s_row_of) .none kV_row_of dc_row_of pm_row_of an_row_of cd_row_of ct_row_of), f_t___init__ := f_t___init__, d_t___init__ := (PySem.W.fnOf "__init__" "Tree.__init__" (defArgs s_t___init__) (defBody s_t___init__) (defScope s_t___init__) .none (.ref D_t___init__) dc_t___init__ pm_t___init__ an_t___init__ cd_t___init__ ct_t___init__), f_t_of := f_t_of, d_t_of := (PySem.W.fnOf "of" "Tree.of" (defArgs s_t_of) (defBody s_t_of) (defScope s_t_of) .none (.ref D_t_of) dc_t_of pm_t_of an_t_of cd_t_of ct_t_of), f_t___len__ := f_t___len__, d_t___len__ := (PySem.W.fnOf "__len__" "Tree.__len__" (defArgs s_t___len__) (defBody s_t___len__) (defScope s_t___len__) .none kV_t___len__ dc_t___len__ pm_t___len__ an_t___len__ cd_t___len__ ct_t___len__), f_t___iter__ := f_t___iter__, d_t___iter__ := (PySem.W.fnOf "__iter__" "Tree.__iter__" (defArgs s_t___iter__) (defBody s_t___iter__) (defScope s_t___iter__) .none kV_t___iter__ dc_t___iter__ pm_t___iter__ an_t___iter__ cd_t___iter__ ct_t___iter__), f_t___getitem__ := f_t___getitem__, d_t___getitem__ := (PySem.W.fnOf "__getitem__" "Tree.__getitem__" (defArgs s_t___getitem__) (defBody s_t___getitem__) (defScope s_t___getitem__) .none kV_t___getitem__ dc_t___getitem__ pm_t___getitem__ an_t___getitem__ cd_t___getitem__ ct_t___getitem__), f_t_parent := f_t_parent, d_t_parent := (PySem.W.fnOf "parent" "Tree.parent" (defArgs s_t_parent) (defBody s_t_parent) (defScope s_t_parent) .none kV_t_parent dc_t_parent pm_t_parent an_t_parent cd_t_parent ct_t_parent), f_t_way_to := f_t_way_to, d_t_way_to := (PySem.W.fnOf "way_to" "Tree.way_to" (defArgs s_t_way_to) (defBody s_t_way_to) (defScope s_t_way_to) .none kV_t_way_to dc_t_way_to pm_t_way_to an_t_way_to cd_t_way_to ct_t_way_to), f_t_subtree := f_t_subtree, d_t_subtree := (PySem.W.fnOf "subtree" "Tree.subtree" (defArgs s_t_subtree) (defBody s_t_subtree) (defScope s_t_subtree) .none kV_t_subtree dc_t_subtree pm_t_subtree an_t_subtree cd_t_subtree ct_t_subtree), f_faults := f_faults, d_faults := (PySem.W.fnOf "faults" "faults" (defArgs s_faults) (defBody s_faults) (defScope s_faults) .none (.ref D_faults) dc_faults pm_faults an_faults cd_faults ct_faults), f_falls := f_falls, d_falls := (PySem.W.fnOf "falls" "falls" (defArgs s_falls) (defBody s_falls) (defScope s_falls) .none (.ref D_falls) dc_falls pm_falls an_falls cd_falls ct_falls), f_heap_of := f_heap_of, d_heap_of := (PySem.W.fnOf "heap_of" "heap_of" (defArgs s_heap_of) (defBody s_heap_of) (defScope s_heap_of) .none kV_heap_of dc_heap_of pm_heap_of an_heap_of cd_heap_of ct_heap_of), f_z___init__ := f_z___init__, d_z___init__ := (PySem.W.fnOf "__init__" "Sift.__init__" (defArgs s_z___init__) (defBody s_z___init__) (defScope s_z___init__) .none kV_z___init__ dc_z___init__ pm_z___init__ an_z___init__ cd_z___init__ ct_z___init__), f_z___eq__ := f_z___eq__, d_z___eq__ := (PySem.W.fnOf "__eq__" "Sift.__eq__" (defArgs s_z___eq__) (defBody s_z___eq__) (defScope s_z___eq__) .none kV_z___eq__ dc_z___eq__ pm_z___eq__ an_z___eq__ cd_z___eq__ ct_z___eq__), f_sift_up := f_sift_up, d_sift_up := (PySem.W.fnOf "sift_up" "sift_up" (defArgs s_sift_up) (defBody s_sift_up) (defScope s_sift_up) .none (.ref D_sift_up) dc_sift_up pm_sift_up an_sift_up cd_sift_up ct_sift_up), f_sift_down := f_sift_down, d_sift_down := (PySem.W.fnOf "sift_down" "sift_down" (defArgs s_sift_down) (defBody s_sift_down) (defScope s_sift_down) .none (.ref D_sift_down) dc_sift_down pm_sift_down an_sift_down cd_sift_down ct_sift_down), f_least_child := f_least_child, d_least_child := (PySem.W.fnOf "least_child" "least_child" (defArgs s_least_child) (defBody s_least_child) (defScope s_least_child) .none kV_least_child dc_least_child pm_least_child an_least_child (.ref cc_least_child) ct_least_child), f_u___init__ := f_u___init__, d_u___init__ := (PySem.W.fnOf "__init__" "Built.__init__" (defArgs s_u___init__) (defBody s_u___init__) (defScope s_u___init__) .none kV_u___init__ dc_u___init__ pm_u___init__ an_u___init__ cd_u___init__ ct_u___init__), f_u___eq__ := f_u___eq__, d_u___eq__ := (PySem.W.fnOf "__eq__" "Built.__eq__" (defArgs s_u___eq__) (defBody s_u___eq__) (defScope s_u___eq__) .none kV_u___eq__ dc_u___eq__ pm_u___eq__ an_u___eq__ cd_u___eq__ ct_u___eq__), f_push := f_push, d_push := (PySem.W.fnOf "push" "push" (defArgs s_push) (defBody s_push) (defScope s_push) .none (.ref D_push) dc_push pm_push an_push cd_push ct_push), f_take := f_take, d_take := (PySem.W.fnOf "take" "take" (defArgs s_take) (defBody s_take) (defScope s_take) .none (.ref D_take) dc_take pm_take an_take cd_take ct_take), f_build := f_build, d_build := (PySem.W.fnOf "build" "build" (defArgs s_build) (defBody s_build) (defScope s_build) .none (.ref D_build) dc_build pm_build an_build cd_build ct_build), f_filled_heap_of := f_filled_heap_of, d_filled_heap_of := (PySem.W.fnOf "filled_heap_of" "filled_heap_of" (defArgs s_filled_heap_of) (defBody s_filled_heap_of) (defScope s_filled_heap_of) .none kV_filled_heap_of dc_filled_heap_of pm_filled_heap_of an_filled_heap_of cd_filled_heap_of ct_filled_heap_of), f_check_filled := f_check_filled, d_check_filled := (PySem.W.fnOf "check_filled" "check_filled" (defArgs s_check_filled) (defBody s_check_filled) (defScope s_check_filled) .none kV_check_filled dc_check_filled pm_check_filled an_check_filled cd_check_filled ct_check_filled), f__law_number := f__law_number, d__law_number := (PySem.W.fnOf "_law_number" "_law_number" (defArgs s__law_number) (defBody s__law_number) (defScope s__law_number) .none kV__law_number dc__law_number pm__law_number an__law_number cd__law_number ct__law_number), f__law_take := f__law_take, d__law_take := (PySem.W.fnOf "_law_take" "_law_take" (defArgs s__law_take) (defBody s__law_take) (defScope s__law_take) .none kV__law_take dc__law_take pm__law_take an__law_take cd__law_take ct__law_take), f__law_pick := f__law_pick, d__law_pick := (PySem.W.fnOf "_law_pick" "_law_pick" (defArgs s__law_pick) (defBody s__law_pick) (defScope s__law_pick) .none kV__law_pick dc__law_pick pm__law_pick an__law_pick cd__law_pick ct__law_pick), f__law_arms := f__law_arms, d__law_arms := (PySem.W.fnOf "_law_arms" "_law_arms" (defArgs s__law_arms) (defBody s__law_arms) (defScope s__law_arms) .none kV__law_arms dc__law_arms pm__law_arms an__law_arms cd__law_arms ct__law_arms), f__law_keys := f__law_keys, d__law_keys := (PySem.W.fnOf "_law_keys" "_law_keys" (defArgs s__law_keys) (defBody s__law_keys) (defScope s__law_keys) .none kV__law_keys dc__law_keys pm__law_keys an__law_keys cd__law_keys ct__law_keys), f_law := fa, d_law := (PySem.W.fnOf "law" "law" (defArgs s_law) (defBody s_law) (defScope s_law) .none kV_law dc_law pm_law an_law cd_law ct_law), C := C, CS := CS, CB := CB, po := po, c_least_child := cc_least_child, P_least_child := PP_least_child }
  have T : Tx K mg A := {
    F_is_integer := (fun_mk (st := s_is_integer) l_is_integer c_is_integer k_is_integer)
    m_is_integer := PySem.W.mg_of X G a_is_integer
    F_is_integer_from := (fun_mk (st := s_is_integer_from) l_is_integer_from c_is_integer_from k_is_integer_from)
    m_is_integer_from := PySem.W.mg_of X G a_is_integer_from
    F_is_key := (fun_mk (st := s_is_key) l_is_key c_is_key k_is_key)
    m_is_key := PySem.W.mg_of X G a_is_key
    F_check_arms := (fun_mk (st := s_check_arms) l_check_arms c_check_arms k_check_arms)
    m_check_arms := PySem.W.mg_of X G a_check_arms
    F_check_many := (fun_mk (st := s_check_many) l_check_many c_check_many k_check_many)
    m_check_many := PySem.W.mg_of X G a_check_many
    F_check_place := (fun_mk (st := s_check_place) l_check_place c_check_place k_check_place)
    m_check_place := PySem.W.mg_of X G a_check_place
    F_check_key := (fun_mk (st := s_check_key) l_check_key c_check_key k_check_key)
    m_check_key := PySem.W.mg_of X G a_check_key
    F_row_of := (fun_mk (st := s_row_of) l_row_of c_row_of k_row_of)
    m_row_of := PySem.W.mg_of X G a_row_of
    F_t___init__ := ⟨⟨_, _, _, _, _, _, _, _, _, _, rfl, l_t___init__, c_t___init__, .inl ⟨rfl, rfl⟩, .inr ⟨_, rfl, fun q hq => by rw [List.mem_singleton.mp hq]; exact ⟨_, w_t___init__, relI _ _⟩⟩⟩, k_t___init__⟩
    F_t_of := ⟨⟨_, _, _, _, _, _, _, _, _, _, rfl, l_t_of, c_t_of, .inl ⟨rfl, rfl⟩, .inr ⟨_, rfl, fun q hq => by rw [List.mem_singleton.mp hq]; exact ⟨_, w_t_of, relI _ _⟩⟩⟩, k_t_of⟩
    F_t___len__ := (fun_mk (st := s_t___len__) l_t___len__ c_t___len__ k_t___len__)
    D_t___len__ := ⟨a_t___len__, i_t___len__, n_t___len__⟩
    F_t___iter__ := (fun_mk (st := s_t___iter__) l_t___iter__ c_t___iter__ k_t___iter__)
    D_t___iter__ := ⟨a_t___iter__, i_t___iter__, n_t___iter__⟩
    F_t___getitem__ := (fun_mk (st := s_t___getitem__) l_t___getitem__ c_t___getitem__ k_t___getitem__)
    D_t___getitem__ := ⟨a_t___getitem__, i_t___getitem__, n_t___getitem__⟩
    F_t_parent := (fun_mk (st := s_t_parent) l_t_parent c_t_parent k_t_parent)
    M_t_parent := ⟨a_t_parent, i_t_parent, k_t_parent⟩
    F_t_way_to := (fun_mk (st := s_t_way_to) l_t_way_to c_t_way_to k_t_way_to)
    M_t_way_to := ⟨a_t_way_to, i_t_way_to, k_t_way_to⟩
    F_t_subtree := (fun_mk (st := s_t_subtree) l_t_subtree c_t_subtree k_t_subtree)
    M_t_subtree := ⟨a_t_subtree, i_t_subtree, k_t_subtree⟩
    F_faults := ⟨⟨_, _, _, _, _, _, _, _, _, _, rfl, l_faults, c_faults, .inl ⟨rfl, rfl⟩, .inr ⟨_, rfl, fun q hq => by rw [List.mem_singleton.mp hq]; exact ⟨_, w_faults, relI _ _⟩⟩⟩, k_faults⟩
    m_faults := PySem.W.mg_of X G a_faults
    F_falls := ⟨⟨_, _, _, _, _, _, _, _, _, _, rfl, l_falls, c_falls, .inl ⟨rfl, rfl⟩, .inr ⟨_, rfl, fun q hq => by rw [List.mem_singleton.mp hq]; exact ⟨_, w_falls, relI _ _⟩⟩⟩, k_falls⟩
    m_falls := PySem.W.mg_of X G a_falls
    F_heap_of := (fun_mk (st := s_heap_of) l_heap_of c_heap_of k_heap_of)
    m_heap_of := PySem.W.mg_of X G a_heap_of
    F_z___init__ := (fun_mk (st := s_z___init__) l_z___init__ c_z___init__ k_z___init__)
    F_z___eq__ := (fun_mk (st := s_z___eq__) l_z___eq__ c_z___eq__ k_z___eq__)
    F_sift_up := ⟨⟨_, _, _, _, _, _, _, _, _, _, rfl, l_sift_up, c_sift_up, .inl ⟨rfl, rfl⟩, .inr ⟨_, rfl, fun q hq => by rw [List.mem_singleton.mp hq]; exact ⟨_, w_sift_up, relI _ _⟩⟩⟩, k_sift_up⟩
    m_sift_up := PySem.W.mg_of X G a_sift_up
    F_sift_down := ⟨⟨_, _, _, _, _, _, _, _, _, _, rfl, l_sift_down, c_sift_down, .inl ⟨rfl, rfl⟩, .inr ⟨_, rfl, fun q hq => by rw [List.mem_singleton.mp hq]; exact ⟨_, w_sift_down, relI _ _⟩⟩⟩, k_sift_down⟩
    m_sift_down := PySem.W.mg_of X G a_sift_down
    L_least_child := ⟨_, _, _, _, _, _, _, _, rfl, l_least_child, c_least_child⟩
    F_least_child := (fun_mk (st := s_least_child) l_least_child c_least_child k_least_child)
    m_least_child := PySem.W.mg_of X G a_least_child
    F_u___init__ := (fun_mk (st := s_u___init__) l_u___init__ c_u___init__ k_u___init__)
    F_u___eq__ := (fun_mk (st := s_u___eq__) l_u___eq__ c_u___eq__ k_u___eq__)
    F_push := ⟨⟨_, _, _, _, _, _, _, _, _, _, rfl, l_push, c_push, .inl ⟨rfl, rfl⟩, .inr ⟨_, rfl, fun q hq => by rw [List.mem_singleton.mp hq]; exact ⟨_, w_push, relI _ _⟩⟩⟩, k_push⟩
    m_push := PySem.W.mg_of X G a_push
    F_take := ⟨⟨_, _, _, _, _, _, _, _, _, _, rfl, l_take, c_take, .inl ⟨rfl, rfl⟩, .inr ⟨_, rfl, fun q hq => by rw [List.mem_singleton.mp hq]; exact ⟨_, w_take, relI _ _⟩⟩⟩, k_take⟩
    m_take := PySem.W.mg_of X G a_take
    F_build := ⟨⟨_, _, _, _, _, _, _, _, _, _, rfl, l_build, c_build, .inl ⟨rfl, rfl⟩, .inr ⟨_, rfl, fun q hq => by rw [List.mem_singleton.mp hq]; exact ⟨_, w_build, relI _ _⟩⟩⟩, k_build⟩
    m_build := PySem.W.mg_of X G a_build
    F_filled_heap_of := (fun_mk (st := s_filled_heap_of) l_filled_heap_of c_filled_heap_of k_filled_heap_of)
    m_filled_heap_of := PySem.W.mg_of X G a_filled_heap_of
    F_check_filled := (fun_mk (st := s_check_filled) l_check_filled c_check_filled k_check_filled)
    m_check_filled := PySem.W.mg_of X G a_check_filled
    F__law_number := (fun_mk (st := s__law_number) l__law_number c__law_number k__law_number)
    m__law_number := PySem.W.mg_of X G a__law_number
    F__law_take := (fun_mk (st := s__law_take) l__law_take c__law_take k__law_take)
    m__law_take := PySem.W.mg_of X G a__law_take
    F__law_pick := (fun_mk (st := s__law_pick) l__law_pick c__law_pick k__law_pick)
    m__law_pick := PySem.W.mg_of X G a__law_pick
    F__law_arms := (fun_mk (st := s__law_arms) l__law_arms c__law_arms k__law_arms)
    m__law_arms := PySem.W.mg_of X G a__law_arms
    F__law_keys := (fun_mk (st := s__law_keys) l__law_keys c__law_keys k__law_keys)
    m__law_keys := PySem.W.mg_of X G a__law_keys
    F_law := (fun_mk (st := s_law) l_law c_law k_law)
    m_law := PySem.W.mg_of X G a_law
    c_MOST_ARMS := .inr ⟨_, PySem.W.mg_of X G q_MOST_ARMS⟩
    c_MOST_PLACES := .inr ⟨_, PySem.W.mg_of X G q_MOST_PLACES⟩
    c_GREATEST_KEY := .inr ⟨_, PySem.W.mg_of X G q_GREATEST_KEY⟩
    g_isinstance := PySem.W.mg_none_of X G z_isinstance
    g_int := PySem.W.mg_none_of X G z_int
    g_bool := PySem.W.mg_none_of X G z_bool
    g_len := PySem.W.mg_none_of X G z_len
    g_tuple := PySem.W.mg_none_of X G z_tuple
    g_list := PySem.W.mg_none_of X G z_list
    g_range := PySem.W.mg_none_of X G z_range
    g_enumerate := PySem.W.mg_none_of X G z_enumerate
    g_reversed := PySem.W.mg_none_of X G z_reversed
    g_min := PySem.W.mg_none_of X G z_min
    g_sum := PySem.W.mg_none_of X G z_sum
    g_iter := PySem.W.mg_none_of X G z_iter
    g_any := PySem.W.mg_none_of X G z_any
    g_sorted := PySem.W.mg_none_of X G z_sorted
    cT := ⟨pg, hd, po_, sa⟩
    nMany := na_nMany
    nArms := na_nArms
    nPl := na_nPl
    mC := PySem.W.mg_of X G aC
    mkC := ⟨mk, a_t___init__, i_t___init__, kc⟩
    cr := ⟨rd, ga⟩
    cof := ⟨a_t_of, ⟨_, r_t_of⟩, n_t_of⟩
    cTS := ⟨pgS, hdS, po_S, saS⟩
    nRow := na_nRow
    nWay := na_nWay
    nLooks := na_nLooks
    mCS := PySem.W.mg_of X G aCS
    mkCS := ⟨mkS, a_z___init__, i_z___init__, kcS⟩
    eqcS := ⟨a_z___eq__, i_z___eq__, eneS, eobS, eniS, entS⟩
    kaS := kaS
    knS := knS
    ktkS := ktkS
    kmS := kmS
    kiS_int := kit_no kclS ktyS eniS
    kiS_tuple := kit_no kclS ktyS entS
    cTB := ⟨pgB, hdB, po_B, saB⟩
    bRow := na_bRow
    bStops := na_bStops
    bChanges := na_bChanges
    bLooks := na_bLooks
    mCB := PySem.W.mg_of X G aCB
    mkCB := ⟨mkB, a_u___init__, i_u___init__, kcB⟩
    eqcB := ⟨a_u___eq__, i_u___eq__, eneB, eobB, eniB, entB⟩
    kaB := kaB
    knB := knB
    ktkB := ktkB
    kmB := kmB
    kiB_int := kit_no kclB ktyB eniB
    kiB_tuple := kit_no kclB ktyB entB
  }
  refine ⟨A.d_law, [(cc_least_child, PP_least_child)], spLaw K A, fun p hp => by
    simp only [List.mem_cons, List.not_mem_nil, or_false] at hp
    rcases hp with rfl
    · exact hT_least_child, ?_, ?_, fun s v => .of_eq rfl, fun H a ns hl hb hH hS => ⟨a, ns, rfl, hS, hl, fun p hp => ?_, fun _ => rfl⟩, fun base _ _ hTB => ok_law T (hTB (cc_least_child, PP_least_child) (by simp))⟩
  · exact fun p hp => by
      simp only [List.mem_cons, List.not_mem_nil, or_false] at hp
      rcases hp with rfl
      · exact hN_least_child
  · exact fun p hp => by
      simp only [List.mem_cons, List.not_mem_nil, or_false] at hp
      rcases hp with rfl
      · exact PySem.W.codeHd_of_K X hC_least_child
  · unfold TT at hp
    simp only [List.mem_cons, List.not_mem_nil, or_false] at hp
    rcases hp with rfl
    · exact LamX.TabS.nil (hH (cc_least_child, PP_least_child) (by simp))
theorem walk {l : PySem.W.OpenLaw} {q : Program} {loose : List Str} {XP : (Str → Option Value) → Heap → Prop} {YP : World → Heap → Prop} {d : DefRec} {K : Params → PySem.W.Frag} (hn : l.most = some 63) (hdf : d.params.defaults = [])
    (hY : ∀ (w : World) (h : Heap), YP w h → (K w.params).In h)
    (F : ∀ (w : World) (mg : Str → Option Value) (fa : Addr) (h : Heap), YP w h → (K w.params).In h → h.Ns mainGlobals mg → mg d.name = some (.ref fa) → LamX.LawAtS l w (K w.params) CX0 11 63 "script" mg fa h) :
    PySem.W.WalkO q loose XP YP l.row.toRowW d [] (fun f vs => PySem.call f vs) :=
  LamX.walk_ofTs (n := 63) (k := 11) (x := "script") (CX := fun _ => CX0) hn (by decide) hdf ⟨rfl, by decide, by decide⟩ hY F fun _ _ _ _ _ z => z
end Tw

open PySem PySem.W PyProof.Rows in
set_option maxRecDepth 100000 in
set_option maxHeartbeats 0 in
theorem PySem.Challenge.cw_heaprows_k09_whole_anew_holds : PySem.Challenge.rw_heaprows_k09_whole_anew.Holds := by
  w_on; o_law; k_head; (case hw => w_witness2)
  k_fill
  refine Tw.walk (l := PySem.Challenge.rw_heaprows_k09_whole_anew) rfl rfl (fun w h Y => PySem.W.km_in_of Y) ?F
  case F =>
    intro w mg fa h Y KX G hmg
    have hT8 := PySem.W.km_tabs_of Y
    refine' Tw.all_mk KX G hmg ?aC ?aCS ?aCB ?a_is_integer ?l_is_integer ?c_is_integer ?k_is_integer ?a_is_integer_from ?l_is_integer_from ?c_is_integer_from ?k_is_integer_from ?a_is_key ?l_is_key ?c_is_key ?k_is_key ?a_check_arms ?l_check_arms ?c_check_arms ?k_check_arms ?a_check_many ?l_check_many ?c_check_many ?k_check_many ?a_check_place ?l_check_place ?c_check_place ?k_check_place ?a_check_key ?l_check_key ?c_check_key ?k_check_key ?a_row_of ?l_row_of ?c_row_of ?k_row_of ?a_t___init__ ?i_t___init__ ?l_t___init__ ?c_t___init__ ?k_t___init__ ?w_t___init__ ?a_t_of ?r_t_of ?n_t_of ?l_t_of ?c_t_of ?k_t_of ?w_t_of ?a_t___len__ ?i_t___len__ ?n_t___len__ ?l_t___len__ ?c_t___len__ ?k_t___len__ ?a_t___iter__ ?i_t___iter__ ?n_t___iter__ ?l_t___iter__ ?c_t___iter__ ?k_t___iter__ ?a_t___getitem__ ?i_t___getitem__ ?n_t___getitem__ ?l_t___getitem__ ?c_t___getitem__ ?k_t___getitem__ ?a_t_parent ?i_t_parent ?l_t_parent ?c_t_parent ?k_t_parent ?a_t_way_to ?i_t_way_to ?l_t_way_to ?c_t_way_to ?k_t_way_to ?a_t_subtree ?i_t_subtree ?l_t_subtree ?c_t_subtree ?k_t_subtree ?a_faults ?l_faults ?c_faults ?k_faults ?w_faults ?a_falls ?l_falls ?c_falls ?k_falls ?w_falls ?a_heap_of ?l_heap_of ?c_heap_of ?k_heap_of ?a_z___init__ ?i_z___init__ ?l_z___init__ ?c_z___init__ ?k_z___init__ ?a_z___eq__ ?i_z___eq__ ?l_z___eq__ ?c_z___eq__ ?k_z___eq__ ?a_sift_up ?l_sift_up ?c_sift_up ?k_sift_up ?w_sift_up ?a_sift_down ?l_sift_down ?c_sift_down ?k_sift_down ?w_sift_down ?a_least_child ?l_least_child ?c_least_child ?k_least_child ?a_u___init__ ?i_u___init__ ?l_u___init__ ?c_u___init__ ?k_u___init__ ?a_u___eq__ ?i_u___eq__ ?l_u___eq__ ?c_u___eq__ ?k_u___eq__ ?a_push ?l_push ?c_push ?k_push ?w_push ?a_take ?l_take ?c_take ?k_take ?w_take ?a_build ?l_build ?c_build ?k_build ?w_build ?a_filled_heap_of ?l_filled_heap_of ?c_filled_heap_of ?k_filled_heap_of ?a_check_filled ?l_check_filled ?c_check_filled ?k_check_filled ?a__law_number ?l__law_number ?c__law_number ?k__law_number ?a__law_take ?l__law_take ?c__law_take ?k__law_take ?a__law_pick ?l__law_pick ?c__law_pick ?k__law_pick ?a__law_arms ?l__law_arms ?c__law_arms ?k__law_arms ?a__law_keys ?l__law_keys ?c__law_keys ?k__law_keys ?a_law ?l_law ?c_law ?k_law ?q_MOST_ARMS ?q_MOST_PLACES ?q_GREATEST_KEY ?z_isinstance ?z_int ?z_bool ?z_len ?z_tuple ?z_list ?z_range ?z_enumerate ?z_reversed ?z_min ?z_sum ?z_iter ?z_any ?z_sorted ?pg ?hd ?po_ ?sa ?na_nMany ?na_nArms ?na_nPl ?mk ?kc ?rd ?ga ?pgS ?hdS ?po_S ?saS ?na_nRow ?na_nWay ?na_nLooks ?mkS ?kcS ?eneS ?eobS ?eniS ?entS ?kaS ?knS ?ktkS ?kmS ?kclS ?ktyS ?pgB ?hdB ?po_B ?saB ?na_bRow ?na_bStops ?na_bChanges ?na_bLooks ?mkB ?kcB ?eneB ?eobB ?eniB ?entB ?kaB ?knB ?ktkB ?kmB ?kclB ?ktyB (hT8 _ (.head _)) (by kernel_rfl) (by kernel_rfl)
    (case aC => k_is)
    (case aCS => k_is)
    (case aCB => k_is)
    (case a_is_integer => k_is)
    (case l_is_integer => k_is)
    (case c_is_integer => k_is)
    (case k_is_integer => k_is)
    (case a_is_integer_from => k_is)
    (case l_is_integer_from => k_is)
    (case c_is_integer_from => k_is)
    (case k_is_integer_from => k_is)
    (case a_is_key => k_is)
    (case l_is_key => k_is)
    (case c_is_key => k_is)
    (case k_is_key => k_is)
    (case a_check_arms => k_is)
    (case l_check_arms => k_is)
    (case c_check_arms => k_is)
    (case k_check_arms => k_is)
    (case a_check_many => k_is)
    (case l_check_many => k_is)
    (case c_check_many => k_is)
    (case k_check_many => k_is)
    (case a_check_place => k_is)
    (case l_check_place => k_is)
    (case c_check_place => k_is)
    (case k_check_place => k_is)
    (case a_check_key => k_is)
    (case l_check_key => k_is)
    (case c_check_key => k_is)
    (case k_check_key => k_is)
    (case a_row_of => k_is)
    (case l_row_of => k_is)
    (case c_row_of => k_is)
    (case k_row_of => k_is)
    (case a_t___init__ => k_is)
    (case i_t___init__ => k_is)
    (case l_t___init__ => k_is)
    (case c_t___init__ => k_is)
    (case k_t___init__ => k_is)
    (case w_t___init__ => k_is)
    (case a_t_of => k_is)
    (case r_t_of => k_is)
    (case n_t_of => k_is)
    (case l_t_of => k_is)
    (case c_t_of => k_is)
    (case k_t_of => k_is)
    (case w_t_of => k_is)
    (case a_t___len__ => k_is)
    (case i_t___len__ => k_is)
    (case n_t___len__ => k_is)
    (case l_t___len__ => k_is)
    (case c_t___len__ => k_is)
    (case k_t___len__ => k_is)
    (case a_t___iter__ => k_is)
    (case i_t___iter__ => k_is)
    (case n_t___iter__ => k_is)
    (case l_t___iter__ => k_is)
    (case c_t___iter__ => k_is)
    (case k_t___iter__ => k_is)
    (case a_t___getitem__ => k_is)
    (case i_t___getitem__ => k_is)
    (case n_t___getitem__ => k_is)
    (case l_t___getitem__ => k_is)
    (case c_t___getitem__ => k_is)
    (case k_t___getitem__ => k_is)
    (case a_t_parent => k_is)
    (case i_t_parent => k_is)
    (case l_t_parent => k_is)
    (case c_t_parent => k_is)
    (case k_t_parent => k_is)
    (case a_t_way_to => k_is)
    (case i_t_way_to => k_is)
    (case l_t_way_to => k_is)
    (case c_t_way_to => k_is)
    (case k_t_way_to => k_is)
    (case a_t_subtree => k_is)
    (case i_t_subtree => k_is)
    (case l_t_subtree => k_is)
    (case c_t_subtree => k_is)
    (case k_t_subtree => k_is)
    (case a_faults => k_is)
    (case l_faults => k_is)
    (case c_faults => k_is)
    (case k_faults => k_is)
    (case w_faults => k_is)
    (case a_falls => k_is)
    (case l_falls => k_is)
    (case c_falls => k_is)
    (case k_falls => k_is)
    (case w_falls => k_is)
    (case a_heap_of => k_is)
    (case l_heap_of => k_is)
    (case c_heap_of => k_is)
    (case k_heap_of => k_is)
    (case a_z___init__ => k_is)
    (case i_z___init__ => k_is)
    (case l_z___init__ => k_is)
    (case c_z___init__ => k_is)
    (case k_z___init__ => k_is)
    (case a_z___eq__ => k_is)
    (case i_z___eq__ => k_is)
    (case l_z___eq__ => k_is)
    (case c_z___eq__ => k_is)
    (case k_z___eq__ => k_is)
    (case a_sift_up => k_is)
    (case l_sift_up => k_is)
    (case c_sift_up => k_is)
    (case k_sift_up => k_is)
    (case w_sift_up => k_is)
    (case a_sift_down => k_is)
    (case l_sift_down => k_is)
    (case c_sift_down => k_is)
    (case k_sift_down => k_is)
    (case w_sift_down => k_is)
    (case a_least_child => k_is)
    (case l_least_child => k_is)
    (case c_least_child => k_is)
    (case k_least_child => k_is)
    (case a_u___init__ => k_is)
    (case i_u___init__ => k_is)
    (case l_u___init__ => k_is)
    (case c_u___init__ => k_is)
    (case k_u___init__ => k_is)
    (case a_u___eq__ => k_is)
    (case i_u___eq__ => k_is)
    (case l_u___eq__ => k_is)
    (case c_u___eq__ => k_is)
    (case k_u___eq__ => k_is)
    (case a_push => k_is)
    (case l_push => k_is)
    (case c_push => k_is)
    (case k_push => k_is)
    (case w_push => k_is)
    (case a_take => k_is)
    (case l_take => k_is)
    (case c_take => k_is)
    (case k_take => k_is)
    (case w_take => k_is)
    (case a_build => k_is)
    (case l_build => k_is)
    (case c_build => k_is)
    (case k_build => k_is)
    (case w_build => k_is)
    (case a_filled_heap_of => k_is)
    (case l_filled_heap_of => k_is)
    (case c_filled_heap_of => k_is)
    (case k_filled_heap_of => k_is)
    (case a_check_filled => k_is)
    (case l_check_filled => k_is)
    (case c_check_filled => k_is)
    (case k_check_filled => k_is)
    (case a__law_number => k_is)
    (case l__law_number => k_is)
    (case c__law_number => k_is)
    (case k__law_number => k_is)
    (case a__law_take => k_is)
    (case l__law_take => k_is)
    (case c__law_take => k_is)
    (case k__law_take => k_is)
    (case a__law_pick => k_is)
    (case l__law_pick => k_is)
    (case c__law_pick => k_is)
    (case k__law_pick => k_is)
    (case a__law_arms => k_is)
    (case l__law_arms => k_is)
    (case c__law_arms => k_is)
    (case k__law_arms => k_is)
    (case a__law_keys => k_is)
    (case l__law_keys => k_is)
    (case c__law_keys => k_is)
    (case k__law_keys => k_is)
    (case a_law => k_is)
    (case l_law => k_is)
    (case c_law => k_is)
    (case k_law => k_is)
    (case q_MOST_ARMS => k_is)
    (case q_MOST_PLACES => k_is)
    (case q_GREATEST_KEY => k_is)
    (case z_isinstance => k_is)
    (case z_int => k_is)
    (case z_bool => k_is)
    (case z_len => k_is)
    (case z_tuple => k_is)
    (case z_list => k_is)
    (case z_range => k_is)
    (case z_enumerate => k_is)
    (case z_reversed => k_is)
    (case z_min => k_is)
    (case z_sum => k_is)
    (case z_iter => k_is)
    (case z_any => k_is)
    (case z_sorted => k_is)
    (case pg => k_is)
    (case hd => k_is)
    (case po_ => k_is)
    (case sa => k_is)
    (case na_nMany => k_is)
    (case na_nArms => k_is)
    (case na_nPl => k_is)
    (case mk => k_is)
    (case kc => k_is)
    (case rd => k_is)
    (case ga => k_is)
    (case pgS => k_is)
    (case hdS => k_is)
    (case po_S => k_is)
    (case saS => k_is)
    (case na_nRow => k_is)
    (case na_nWay => k_is)
    (case na_nLooks => k_is)
    (case mkS => k_is)
    (case kcS => k_is)
    (case eneS => k_is)
    (case eobS => k_is)
    (case eniS => k_is)
    (case entS => k_is)
    (case kaS => k_is)
    (case knS => k_is)
    (case ktkS => k_is)
    (case kmS => k_is)
    (case kclS => k_is)
    (case ktyS => k_is)
    (case pgB => k_is)
    (case hdB => k_is)
    (case po_B => k_is)
    (case saB => k_is)
    (case na_bRow => k_is)
    (case na_bStops => k_is)
    (case na_bChanges => k_is)
    (case na_bLooks => k_is)
    (case mkB => k_is)
    (case kcB => k_is)
    (case eneB => k_is)
    (case eobB => k_is)
    (case eniB => k_is)
    (case entB => k_is)
    (case kaB => k_is)
    (case knB => k_is)
    (case ktkB => k_is)
    (case kmB => k_is)
    (case kclB => k_is)
    (case ktyB => k_is)
