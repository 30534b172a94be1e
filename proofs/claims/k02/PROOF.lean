import PyProof.Rows.All
import Wide.All
import OpenK.AllK
import Wide.FinOn
import HandS.ForMost
import HandS.ForExc
import HandS.IsInst
import HandS.MakeKwOnly
import HandS.ClsMeth
import HandS.Conv
import HandS.Codes
import HandS.Walk
import HandS.Style
import HandS.Flow
import HandS.Wide
import HandS.OwnEq
import HandS.OwnIter
import HandS.IterVal
import KE.KOwnIter
import PyProof.FactsAll.tuple_iterator_1
import HandS.Deep
import HandS.SortRule
import KE.GoesMore
import KE.GoesEnum
import PySem.Challenge.RW_heaprows_k02_whole_rows
set_option Elab.async false
set_option maxRecDepth 100000
set_option Elab.async false
set_option linter.all false
set_option maxRecDepth 100000
set_option maxHeartbeats 2000000
namespace Tw
open PySem PySem.Spec PyProof.Rows L2

/-! own rules: an instance with dunder methods -/
/-- a dunder method of the class at C, its def at f -/
structure Dn (K : PySem.W.Frag) (C : Addr) (m : Str) (f : Addr) : Prop where
  at_ : PySem.W.findIn K (.ref C) m = some (some (.ref f))
  fn : PySem.W.isFn K (.ref f) = true
  fi : PySem.W.fnIn K f = true


section
variable {X : Cx} {CX : CXT} {k n : Nat} {f C : Addr} {fd : FuncData} {ps : List Str} {sp : Sp} {E : XK} {o e : Expr} {pos : Pos} {ta tb : TE} {A1 : Around}
  {pins : List (Addr × Obj)} {σ : L2.St} {H : Hp} {s : Shared} {Q : VK}
theorem Sub.env0 (sb : Sub X n A1) (I : Inv X pins σ H s) : Env0 X.prog X.w X.K X.mg X.base A1 X.stack s H := by
  have q := I.env0
  exact ⟨by rw [sb.fr]; exact q.frames, q.mod, q.bs, q.bsz, q.funs, q.frf, q.hok, q.bare⟩
theorem run_sub {us : List Value} {vs : List V} (F : FnOk X.prog X.w X.K X.mg X.base CX k f fd ps sp) (sb : Sub X k A1) (hb : Binds X.K fd ps []) (hx : Passes CX X E) (I : Inv X pins σ H s) (r : Vals vs us) (h : sp vs H Q E) :
    wpAny (model X.prog X.w) A1 (call (.ref f) us) (EP X pins σ Q) X.xe s := by
  have hl : us.length = ps.length := by rw [← r.length]; exact F.len _ _ _ _ h
  have hb1 : BindsTo s fd ⟨us, []⟩ (ps.zip us) := by
    have z := hb s us I.kIn (by rw [List.append_nil]; exact hl)
    rw [List.append_nil] at z
    exact z
  refine wpAny_call (codeAny_mono (F.run A1 X.stack s H ⟨us, []⟩ us vs Q E sb.room (Sub.env0 sb I) hb1 r h) fun z s' hq => ?_)
  match z, hq with
  | .error e, hq => exact hx pins σ H s e s' I hq
  | .ok (.ret u), hq => exact I.after hq
  | .ok .next, hq => exact False.elim hq
  | .ok .brk, hq => exact False.elim hq
  | .ok .cont, hq => exact False.elim hq
theorem relR (a : Addr) : RelV (V.ref a) (Value.ref a) := rfl
theorem relB (b : Bool) : RelV (V.bl b) (Value.bool b) := rfl
theorem relI (i : Int) (t : Tok) : RelV (V.int i) (Value.int i t) := ⟨t, rfl⟩
/-- o[e] by the class's own def -/
def tGi (C : Addr) (sp : Sp) (E : XK) (ta tb : TE) : TE := fun σ H Q => ta σ H fun x H1 => tb σ H1 fun y H2 =>
  ∃ a dx fs, x = .ref a ∧ H2 a = some (.ins C dx fs) ∧ sp [.ref a, y] H2 Q E
theorem pe_gi (hd : Dn X.K C "__getitem__" f) (F : FnOk X.prog X.w X.K X.mg X.base CX k f fd ps sp) (hr : Room (k + 1) X.A) (hb : Binds X.K fd ps []) (hx : Passes CX X E) (ho : PE X o ta) (he : PE X e tb)
    (hs : ∀ v u, subscripted e true v u = runValue (.builtin "lifetime.subscript" ⟨[v, u], []⟩) := by intro _ _; with_unfolding_all rfl) :
    PE X (.Subscript o e pos) (tGi C sp E ta tb) := by
  refine ⟨fun pins s σ H Q I h => ?_⟩
  refine Subscript_ (binT ho he (R := fun x y H2 => ∃ a dx fs, x = .ref a ∧ H2 a = some (.ins C dx fs) ∧ sp [.ref a, y] H2 Q E) I h fun v u s2 x y H2 I2 rx ry ⟨a, dx, fs, ex, ha, q⟩ => ?_)
  subst ex
  obtain rfl : v = Value.ref a := rx
  obtain ⟨mA, O, rr, _, _, _⟩ := ins_get I2.hok ha
  obtain ⟨od, J, hl⟩ := O.look
  obtain ⟨m0, hF⟩ := I2.fr
  exact PySem.W.sub_K hF I2.ok.mod.kin J hd.at_ hd.fi hd.fn (run_sub F (Sub.in1 ⟨hr, rfl⟩) hb hx I2 (.cons (relR a) (.cons ry .nil)) q) (hs _ _)
/-- e in o, by the class's own def -/
def rIn (C : Addr) (sp : Sp) (E : XK) (neg : Bool) : R2 := fun x y H Q =>
  ∃ a dx fs, y = .ref a ∧ H a = some (.ins C dx fs) ∧ sp [.ref a, x] H (fun v H' => ∃ b, v = .bl b ∧ Q (.bl (if neg then !b else b)) H') E
theorem op_in_own (hd : Dn X.K C "__contains__" f) (F : FnOk X.prog X.w X.K X.mg X.base CX k f fd ps sp) (hr : Room k X.A) (hb : Binds X.K fd ps []) (hx : Passes CX X E) : OpR X (compareOp .In) (rIn C sp E false) := by
  intro pins s σ H x y v u Q I rx ry ⟨a, dx, fs, ey, ha, q⟩
  subst ey
  obtain rfl : u = Value.ref a := ry
  obtain ⟨mA, O, rr, _, _, _⟩ := ins_get I.hok ha
  obtain ⟨od, J, hl⟩ := O.look
  obtain ⟨m0, hF⟩ := I.fr
  refine PySem.W.in_K hF I.ok.mod.kin J hd.at_ hd.fn (thn (run_sub F ⟨hr, rfl⟩ hb hx I (.cons (relR a) (.cons rx .nil)) q) fun r s' ⟨z, H', I', rz, b, ez, q'⟩ => ?_)
  subst ez
  obtain rfl : r = Value.bool b := rz
  exact wpAny_truthy_bool ⟨_, _, I', relB b, q'⟩
/-- len(o) by the class's own def -/
def rLenO (C : Addr) (sp : Sp) (E : XK) : List V → Hp → VK → Prop := fun xs H Q =>
  ∃ a dx fs, xs = [.ref a] ∧ H a = some (.ins C dx fs) ∧ sp [.ref a] H (fun v H' => ∃ n : Nat, v = .int n ∧ n < 1000 ∧ Q (.int n) H') E
theorem call_len_own (hd : Dn X.K C "__len__" f) (F : FnOk X.prog X.w X.K X.mg X.base CX k f fd ps sp) (hr : Room (k + 1) X.A) (hb : Binds X.K fd ps []) (hx : Passes CX X E) : CallR X (.builtin "len") (rLenO C sp E) := by
  intro pins s σ H xs us Q I rv ⟨a, dx, fs, ex, ha, q⟩
  subst ex
  obtain ⟨u, rfl, ru⟩ := rv.one
  obtain rfl : u = Value.ref a := ru
  obtain ⟨mA, O, rr, _, _, _⟩ := ins_get I.hok ha
  obtain ⟨od, J, hl⟩ := O.look
  obtain ⟨m0, hF⟩ := I.fr
  refine PySem.W.len_K hF I.ok.mod.kin J hd.at_ hd.fn (thn (run_sub F (Sub.in1 ⟨hr, rfl⟩) hb hx I (.cons (relR a) .nil) q) fun r s' ⟨z, H', I', rz, n, ez, hn, q'⟩ => ?_)
  subst ez
  obtain ⟨t, rfl⟩ := rz
  exact ⟨⟨by omega, by omega⟩, _, _, I'.tok _, relI _ _, q'⟩
end

/-! for x in o, o an instance whose __iter__ says: return iter(self.F), F a tuple -/
def itTup (t : Addr) (i : Nat) : Obj := { cls := .type "tuple_iterator", data := .fields #[.ref t, .int (i : Nat) 0] }
def ItT (t it : Addr) (i : Nat) : HO := .ext fun h => h.get? it = some (itTup t i)
def rIterT (K : PySem.W.Frag) (n : Nat) : List V → Hp → VK → Prop := fun xs H Q => ∃ (t : Addr) (zs : List V), xs = [.ref t] ∧ SqT K H t zs ∧ ∀ it, H it = Option.none → n ≤ it → Q (.ref it) (upd H it (ItT t it 0))
section
variable {X : Cx}
theorem call_iterT : CallR X (.builtin "iter") (rIterT X.K X.s_0.heap.objs.size) := by
  intro pins s σ H xs us Q I r ⟨t, zs, e, hq, q⟩
  subst e
  obtain ⟨u, rfl, ru⟩ := r.one
  obtain rfl : u = Value.ref t := ru
  obtain ⟨its, rv, pl, hz⟩ := I.tuple hq
  refine Calls.call_function_entry (by decide +kernel) (by decide +kernel) PySem.W.kdk_entry_iter (PySem.W.kdk_args_iter _) ?_
  unfold Builtin.«iter»
  refine wpAny_bind (m := someArgs "iter" 1 2 _) (wpAny_of_eq (a := [Value.ref t]) (by first | rfl | kernel_rfl!) ?_)
  show wpAny _ _ (pyIter (.ref t) >>= _) _ _ _
  refine wpAny_bind (wpAny_pyIter_tuple (show s.heap.IsTuple t its.toArray from pl) ?_)
  have g : (s.heap.push (itTup t 0)).get? s.heap.objs.size = some (itTup t 0) := Heap.get?_push_size _ rfl
  have ok : ObjOk X.prog X.w (upd H s.heap.objs.size (ItT t s.heap.objs.size 0)) (s.heap.push (itTup t 0)) s.heap.objs.size (ItT t s.heap.objs.size 0) := ⟨g, ⟨_, g⟩, fun _ _ q k => k _ q⟩
  exact wpAny_pure ⟨_, rfl, .ref s.heap.objs.size, _, I.laid (t' := s.toks) (fun b u e => Heap.get?_push_of_some _ e) (Nat.le_refl _) ok, relR _, q _ (I.hok.fresh (Nat.le_refl _)) I.sz⟩
end

/-- a promise that may speak of how many objects there are when the def is called -/
def FnIt (P : Program) (w : World) (K : PySem.W.Frag) (mg : Str → Option Value) (base : Heap) (k : Nat) (f : Addr) (fd : FuncData) (ps : List Str) (sp : Nat → List V → Hp → VK → Prop) : Prop :=
  ∀ (A : Around) (outer : List Env) (s : Shared) (H : Hp) (us : List Value) (vs : List V) (Q : VK), Room k A → Env0 P w K mg base A outer s H → BindsTo s fd ⟨us, []⟩ (ps.zip us) → vs.length = ps.length → Vals vs us →
    sp s.heap.objs.size vs H Q → codeAny (model P w) A (.call (.ref f) ⟨us, []⟩) (CR CX0 outer P w H s Q E0) s
section
variable {P : Program} {w : World} {K : PySem.W.Frag} {mg : Str → Option Value} {base : Heap}
theorem fnIt_of {x qual : Str} {st : Stmt} {f : Addr} {fd : FuncData} {N ps : List Str} {k : Nat} {sp : Nat → List V → Hp → VK → Prop} (F : Fun K x qual st f fd) (S : FnScope N ps (defScope st))
    (hbody : ∀ (cdv : Value) (A : Around) (outer : List Env) (s : Shared) (H : Hp) (vs : List V) (Q : VK), Room k (A.deeper (envOfC qual (defScope st) s.heap.objs.size f cdv)) → sp s.heap.objs.size vs H Q →
      ∃ t, PSs (cxOf CX0 P w K mg base N qual (defScope st) f cdv A outer s H E0).nox (defBody st) t ∧ t { nx := fun _ H' => Q .non H', rt := Q } (start N vs) H) : FnIt P w K mg base (k + 1) f fd ps sp := by
  obtain ⟨oc, od, kV, doc, pm, an, cdv, ct, osl, rfl, lk, hcd⟩ := F.ex
  intro A outer s H us vs Q hr e0 hb hl r hsp
  have kin : K.In s.heap := e0.mod.kin.keeps fun b o e => (e0.bs b o e).1
  have lim : s.heap.NoLimit := e0.mod.nolimit.keeps fun b o e => (e0.bs b o e).1
  have kinds : ∀ y ∈ ps.zip us, (defScope st).names.lookup y.1 = some .local ∨ ((defScope st).names.lookup y.1 = some .cell ∧ ((cellsFrom (s.heap.objs.size + 1) (defScope st).names []).lookup y.1).isSome = true) := by
    intro y hy
    cases S.par y.1 (List.of_mem_zip (a := y.1) (b := y.2) hy).1 with
    | inl q => exact .inl q
    | inr q => exact .inr ⟨q, PySem.W.cellsFrom_some _ _ _ (.inl q)⟩
  apply codeAny_call_function hr.depth (kin _ _ lk) rfl S.co S.gen rfl (PySem.W.codeRec_of kin hcd) (hb _ _ _ _ ?_)
  apply wpAny_newFunctionEnv_cells S.kind kinds
  intro env he s1 x
  subst he
  refine ⟨lim.keeps x.toInCall.keep, codeAny_func ?_⟩
  obtain ⟨t, ht, hq⟩ := hbody cdv A outer s H vs Q (hr.deeper _) hsp
  have I := inv_start (CX := CX0) (P := P) (w := w) (E := E0) (cd := cdv) (qual := qual) (f := f) (outer := outer) S hr.hd e0 hl r x
  refine wpAny_mono (ht.nox.run [] s1 (start N vs) H _ I hq) (fun fl s' hs => ?_) fun e s' hs => hs
  match fl, hs with
  | .ret u, ⟨v, σ', H', J, rv, q⟩ => exact ⟨v, H', J.os, J.bare, J.base, J.hok, rv, q⟩
  | .next, ⟨σ', H', J, q⟩ => exact ⟨V.non, H', J.os, J.bare, J.base, J.hok, rfl, q⟩
  | .brk, ⟨_, _, _, q⟩ => exact False.elim q
  | .cont, ⟨_, _, _, q⟩ => exact False.elim q
end
/-- what such an __iter__ promises -/
def spIter (K : PySem.W.Frag) (C : Addr) (fld : Str) : Nat → List V → Hp → VK → Prop := fun n vs H Q => ∃ a dx fs t zs, vs = [.ref a] ∧ H a = some (.ins C dx fs) ∧ fs.lookup fld = some (.ref t) ∧ SqT K H t zs ∧
  ∀ it, H it = Option.none → n ≤ it → Q (.ref it) (upd H it (ItT t it 0))
/-- x in o, for a loop: o's own tuple is walked -/
def iOwn (K : PySem.W.Frag) (C : Addr) (fld : Str) (to : TE) : TI := fun σ H R => to σ H fun x H1 => ∃ a dx fs t zs, x = .ref a ∧ H1 a = some (.ins C dx fs) ∧ fs.lookup fld = some (.ref t) ∧ SqT K H1 t zs ∧ R (Itt K t) H1
section
variable {X : Cx} {k : Nat} {f C : Addr} {fd : FuncData} {fld : Str} {tg o : Expr} {to : TE} {pins : List (Addr × Obj)} {σ : L2.St} {H : Hp} {s : Shared} {A1 : Around}
theorem run_iter {a t dx : Addr} {fs : List (Str × V)} {zs : List V} (F : FnIt X.prog X.w X.K X.mg X.base k f fd ["self"] (spIter X.K C fld)) (sb : Sub X k A1) (hb : Binds X.K fd ["self"] []) (I : Inv X pins σ H s)
    (ha : H a = some (.ins C dx fs)) (hf : fs.lookup fld = some (.ref t)) (ht : SqT X.K H t zs) {E : Value → Shared → Prop} :
    wpAny (model X.prog X.w) A1 (call (.ref f) [.ref a]) (fun u s' => ∃ it, u = .ref it ∧ s.heap.objs.size ≤ it ∧ H it = Option.none ∧ Inv X pins σ (upd H it (ItT t it 0)) s') E s := by
  have hb1 : BindsTo s fd ⟨[.ref a], []⟩ ((["self"] : List Str).zip [Value.ref a]) := by
    have z := hb s [.ref a] I.kIn rfl
    exact z
  refine wpAny_call (codeAny_mono (F A1 X.stack s H [.ref a] [.ref a] (fun v H' => ∃ it, v = .ref it ∧ s.heap.objs.size ≤ it ∧ H it = Option.none ∧ H' = upd H it (ItT t it 0)) sb.room (Sub.env0 sb I) hb1 rfl (.cons (relR a) .nil)
    ⟨a, dx, fs, t, zs, rfl, ha, hf, ht, fun it h0 hn => ⟨it, rfl, hn, h0, rfl⟩⟩) fun z s' hq => ?_)
  match z, hq with
  | .error e, hq => exact hq.elim
  | .ok (.ret u), hq =>
    obtain ⟨v, H', I', rv, it, ev, hn, h0, eH⟩ := I.after hq
    subst ev
    rw [eH] at I'
    obtain rfl : u = Value.ref it := rv
    exact ⟨it, rfl, hn, h0, I'⟩
  | .ok .next, hq => exact False.elim hq
  | .ok .brk, hq => exact False.elim hq
  | .ok .cont, hq => exact False.elim hq
theorem pi_own (hd : Dn X.K C "__iter__" f) (F : FnIt X.prog X.w X.K X.mg X.base k f fd ["self"] (spIter X.K C fld)) (hr : Room k X.A) (hb : Binds X.K fd ["self"] []) (ho : PE X o to) : PI X tg o (iOwn X.K C fld to) := by
  refine ⟨fun pins s σ H R I h => ?_⟩
  refine thn (ho.run pins s σ H _ I h) fun u s1 ⟨x, H1, I1, rx, a, dx, fs, t, zs, ex, ha, hf, ht, q⟩ => ?_
  subst ex
  obtain rfl : u = Value.ref a := rx
  obtain ⟨mA, O, rr, _, _, _⟩ := ins_get I1.hok ha
  obtain ⟨od, J, hl⟩ := O.look
  obtain ⟨m0, hF⟩ := I1.fr
  refine PySem.W.owit_iter hF I1.ok.mod.kin J hd.at_ hd.fn (thn (run_iter F ⟨hr, rfl⟩ hb I1 ha hf ht) fun r s2 ⟨it, er, hn, h0, I2⟩ => ?_)
  subst er
  have e2 : upd H1 it (ItT t it 0) it = some (ItT t it 0) := upd_same
  have g : s2.heap.get? it = some (itTup t 0) := (I2.hok it _ e2).1
  have hT : s2.TypeIs (.ref it) "tuple_iterator" := ⟨_, g, rfl⟩
  have hfp := ItX.inv_fp I2 e2 (Nat.le_trans I1.sz hn)
  have I3 := ItX.inv_drop I2 e2
  rw [ItX.dropH_upd h0] at I3 hfp
  unfold PySem.W.OwitIt
  refine wpAny_specialOf (name := Str.ofString "__next__") hT PySem.F.slot_tuple_iterator_next.lookup ?_
  refine ⟨it, [it], _, _, H1, rfl, I3, turn_tuple t it, ⟨_, g, rfl, rfl⟩, fun b hb => ?_, q⟩
  rw [List.mem_singleton.mp hb]
  exact hfp
end
/-! C.m(e, .., k = v, ..), m a classmethod; cls(e, .., k = v, ..), cls a local name that holds the class -/
def tCMethK (C : Addr) (n m : Nat) (sp : Sp) (gV : List V → List V → List V) (E : XK) (ta : TE) (t tk : TA) : TE := fun σ H Q => ta σ H fun x H1 => x = .ref C ∧ t σ H1 fun vs H2 => tk σ H2 fun zs H3 => (.ref C :: vs).length = n ∧ zs.length = m ∧ sp (gV (.ref C :: vs) zs) H3 Q E
def tMakeLK (i : Nat) (C : Addr) (n m : Nat) (sp : Sp) (gV : List V → List V → List V) (E : XK) (t tk : TA) : TE := fun σ H Q => σ[i]? = some (some (.ref C)) ∧ tMakeK C n m sp gV E t tk σ H Q
section
variable {X : Cx} {CX : CXT} {k n i : Nat} {C p g f : Addr} {mc : Value} {sp : Sp} {E : XK} {o e : Expr} {es : List Expr} {kws : List Keyword} {m x : Str} {pos apos xpos : Pos} {ta : TE} {t tk : TA} {pl : Sem Bool} {fd : FuncData} {ps ks : List Str}
  {gv : List Value → List Value → List Value} {gV : List V → List V → List V}
theorem pe_cmethK (he : PE X o ta) (r : ClX.CRead X.K C mc) (c : ClX.CMet X.K C mc m p g) (F : FnOk X.prog X.w X.K X.mg X.base CX k g fd ps sp) (hr : Room k X.A) (hb : KBn X.K fd ps n ks gv gV) (hx : Passes CX X E) (ha : PA X (e :: es) t) (hkw : PK X kws tk)
    (hall : (backToKw pos (keywordEach kws X.env)).all (·.1.isSome) = true := by rfl) (hks : (backToKw pos (keywordEach kws X.env)).filterMap (·.1) = ks := by rfl)
    (hst : starEach (e :: es) X.env = (false, eval e X.env) :: starEach es X.env := by rfl) (hpl : ((backTo pos (starEach (e :: es) X.env)).any (·.1) || (backToKw pos (keywordEach kws X.env)).any (·.1.isNone)) = false := by rfl)
    (ht : eval (.Call (.Attribute o m apos) (e :: es) kws pos) X.env = (do
      let ov ← eval o X.env
      standAt apos.atName
      let (f, first) ← holding [ov] (getMethod ov m pl)
      callWith pos f first (backTo pos (starEach (e :: es) X.env)) (backToKw pos (keywordEach kws X.env))) := by rfl) :
    PE X (.Call (.Attribute o m apos) (e :: es) kws pos) (tCMethK C n ks.length sp gV E ta t tk) := by
  refine ⟨fun pins s σ H Q I h => ?_⟩
  refine PySem.W.methodCall_KW (pl := pl) (thn (he.run pins s σ H _ I h) fun u s1 ⟨x, H1, I1, rx, ex, q⟩ => ?_) ht
  subst ex
  obtain rfl : u = Value.ref C := rx
  refine ClX.getmethcm_ok I1 r c fun s2 I2 => ?_
  refine PySem.W.callWith_of (P := PySem.W.MethP X.K s1.heap.objs.size g (.ref C)) hpl (PySem.W.keeps_M c.fi) (evalArgs_kw2 hall (thn (ha.run pos _ s2 σ H1 _ I2 q) fun us s3 ⟨vs, H2, I3, rv, q2⟩ => ?_) hst)
  refine thn (hkw.run pos _ s3 σ H2 _ I3 q2) fun ws s4 ⟨zs, H3, I4, rz, l1, l2, q3⟩ => ⟨⟨ClX.pin_at I4, I4.kIn⟩, ?_⟩
  rw [hks]
  have r2 : Vals (V.ref C :: vs) (Value.ref C :: us) := .cons (relR C) rv
  have n1 : (Value.ref C :: us).length = n := r2.length.symm.trans l1
  have I5 := ClX.unpin I4
  refine wpAny_call (PySem.W.method_call (ClX.pin_at I4) (codeAny_mono (F.run X.A X.stack s4 H3 ⟨Value.ref C :: us, ks.zip ws⟩ _ _ Q E hr I5.env0 (hb.to _ (Value.ref C :: us) ws I5.kIn n1 (rz.length.symm.trans l2)) (hb.rel r2 rz) q3) fun z s' hq => ?_))
  match z, hq with
  | .error e, hq => exact hx pins σ H3 s4 e s' I5 hq
  | .ok (.ret u), hq => exact I5.after hq
  | .ok .next, hq => exact False.elim hq
  | .ok .brk, hq => exact False.elim hq
  | .ok .cont, hq => exact False.elim hq
theorem pe_makeLK (M : Mk X.K C f) (F : FnOk X.prog X.w X.K X.mg X.base CX k f fd ps sp) (hr : Room (k + 1) X.A) (hb : KBn X.K fd ps (n + 1) ks gv gV) (hx : Passes CX X E) (ha : PA X (e :: es) t) (hkw : PK X kws tk)
    (hN : X.N[i]? = some x) (hv : Vis X.env.scope x) (hd : (x == ("__debug__" : Str)) = false := by decide) (hcd : (x == ("__classdict__" : Str)) = false := by decide)
    (hall : (backToKw pos (keywordEach kws X.env)).all (·.1.isSome) = true := by rfl) (hks : (backToKw pos (keywordEach kws X.env)).filterMap (·.1) = ks := by rfl)
    (hst : starEach (e :: es) X.env = (false, eval e X.env) :: starEach es X.env := by rfl) (hpl : ((backTo pos (starEach (e :: es) X.env)).any (·.1) || (backToKw pos (keywordEach kws X.env)).any (·.1.isNone)) = false := by rfl) :
    PE X (.Call (.Name x xpos) (e :: es) kws pos) (tMakeLK i C n ks.length sp gV E t tk) := by
  refine ⟨fun pins s σ H Q I ⟨h0, h⟩ => ?_⟩
  refine wpAny_Call_Name_kw (thn ((pe_var (pos := xpos) (i := i) hN hv hd hcd).run pins s σ H (fun v H1 => v = .ref C ∧ H1 = H) I ⟨.ref C, h0, rfl, rfl⟩) fun u s1 ⟨v, H1, I1, r1, ev, eH⟩ => ?_)
  subst ev
  rw [eH] at I1
  obtain rfl : u = Value.ref C := r1
  refine PySem.W.callWith_KW (h₀ := X.base) I1.ok.mod.kin M.kp hall (thn (ha.run pos pins s1 σ H _ I1 h) fun us s2 ⟨vs, H2, I2, r, q⟩ => ?_) hpl hst
  refine thn (hkw.run pos pins s2 σ H2 _ I2 q) fun ws s3 ⟨zs, H3, I3, rz, l1, l2, q2⟩ => ⟨I3.kIn, ?_⟩
  rw [hks]
  exact run_makeK M F hr hb hx I3 r rz l1 l2 q2
end

/-! heaps that only grow -/
theorem Same.up {H : Hp} {p : Addr} {o : HO} (h : H p = Option.none) : Same H (upd H p o) := fun b u e => by
  rw [upd_ne (ne_of_none e h)]
  exact e
/-- a list under way at D, which was not there in H1 -/
structure Acc (H1 : Hp) (D : Addr) (acc : List V) (H : Hp) : Prop where
  s : Same H1 H
  n : H1 D = Option.none
  a : H D = some (.lst acc)
theorem Acc.start {H1 : Hp} {D : Addr} (n : H1 D = Option.none) : Acc H1 D [] (upd H1 D (.lst [])) := ⟨Same.up n, n, upd_same⟩
theorem Acc.same {H1 H H' : Hp} {D : Addr} {acc : List V} (h : Acc H1 D acc H) (s : Same H H') : Acc H1 D acc H' := ⟨h.s.trans s, h.n, s _ _ h.a⟩
theorem Acc.push {H1 H : Hp} {D : Addr} {acc zs : List V} (h : Acc H1 D acc H) : Acc H1 D zs (upd H D (.lst zs)) :=
  ⟨fun b o e => by rw [upd_ne (ne_of_none e h.n)]; exact h.s b o e, h.n, upd_same⟩
theorem Same.none' {H H' : Hp} (s : Same H H') {p : Addr} (h : H' p = Option.none) : H p = Option.none := s.free h
theorem Same.of_upd {H H' : Hp} {p : Addr} {o : HO} (h : H p = Option.none) (s : Same (upd H p o) H') : Same H H' := (Same.up h).trans s
/-- a list of ints as values -/
theorem ints_at {ns : List Int} {i : Nat} {x : V} (h : (ns.map V.int)[i]? = some x) : ∃ (hi : i < ns.length), x = .int ns[i] := by
  rw [List.getElem?_map] at h
  cases e : ns[i]? with
  | none => rw [e] at h; cases h
  | some u =>
    rw [e] at h
    obtain ⟨hi, rfl⟩ := List.getElem?_eq_some_iff.mp e
    exact ⟨hi, (Option.some.inj h).symm⟩

/-! comprehensions that pick -/
section
variable {α : Type} {H1 H : Hp} {D : Addr} {ks : List α} {f : α → Option V} {i : Nat} {c : α → V}
def PickI (H1 : Hp) (D : Addr) (ks : List α) (f : α → Option V) : Nat → Hp → Prop := fun i H => Acc H1 D ((ks.take i).filterMap f) H
theorem pick_start (n : H1 D = Option.none) : PickI H1 D ks f 0 (upd H1 D (.lst [])) := Acc.start n
theorem take_fm (hi : i < ks.length) : (ks.take (i + 1)).filterMap f = (ks.take i).filterMap f ++ (f ks[i]).toList := by
  rw [List.take_succ_eq_append_getElem hi, List.filterMap_append]
  cases h : f ks[i] <;> simp [h]
theorem pick_yes {H' : Hp} {y : V} (hi : i < ks.length) (hl : ks.length ≤ 1000) (e : f ks[i] = some y) (s : Same H H') (h : PickI H1 D ks f i H) :
    ∃ acc, H' D = some (.lst acc) ∧ acc.length < sizeLine ∧ PickI H1 D ks f (i + 1) (upd H' D (.lst (acc ++ [y]))) := by
  have h2 := Acc.same h s
  refine ⟨_, h2.a, small1000 ?_, ?_⟩
  · exact Nat.le_trans (Nat.le_trans (List.length_filterMap_le _ _) (List.length_take_le _ _)) (by omega)
  · unfold PickI
    rw [take_fm hi, e]
    exact h2.push
theorem pick_no {H' : Hp} (hi : i < ks.length) (e : f ks[i] = none) (s : Same H H') (h : PickI H1 D ks f i H) : PickI H1 D ks f (i + 1) H' := by
  unfold PickI
  rw [take_fm hi, e, Option.toList_none, List.append_nil]
  exact Acc.same h s
theorem pick_end {m : Nat} (hm : m = ks.length) (h : PickI H1 D ks f m H) : Acc H1 D (ks.filterMap f) H := by
  subst hm
  unfold PickI at h
  rw [List.take_length] at h
  exact h
theorem map_at {x : V} (h : (ks.map c)[i]? = some x) : ∃ hi : i < ks.length, x = c ks[i] := by
  rw [List.getElem?_map] at h
  cases e : ks[i]? with
  | none => rw [e] at h; cases h
  | some u =>
    rw [e] at h
    obtain ⟨hi, rfl⟩ := List.getElem?_eq_some_iff.mp e
    exact ⟨hi, (Option.some.inj h).symm⟩
end
end Tw

set_option Elab.async false
set_option linter.all false
set_option maxRecDepth 100000
set_option maxHeartbeats 2000000
namespace Tw
open PySem PySem.Spec PyProof.Rows L2
open PySem.W (InstAt looks_findIn looks_subIn ifBound_K cmp_K)
/-- a class with an own __eq__ and the usual != -/
structure EqC (K : PySem.W.Frag) (C f : Addr) : Prop where
  eq : PySem.W.findIn K (.ref C) "__eq__" = some (some (.ref f))
  fn : PySem.W.isFn K (.ref f) = true
  ne : PySem.W.findIn K (.ref C) "__ne__" = some (some (.builtin "object.__ne__"))
  ob : PySem.W.subIn K (.ref C) (.type "object") = some true
  ni : PySem.W.subIn K (.type "int") (.ref C) = some false
  nt : PySem.W.subIn K (.type "tuple") (.ref C) = some false

section
variable {prog : Program} {w : World} {A : Around} {E : Value → Shared → Prop} {s : Shared} {K : PySem.W.Frag} {x C L f : Addr} {h₀ : Heap} {m : Str → Option Value} {ox : Obj} {od : Option Obj} {b tb : Value}
theorem ne_entry {Q : PySem.Fin → Shared → Prop} (hu : A.units < cLine) (X : K.In s.heap) (I : InstAt s.heap x ox C od) (c : EqC K C f)
    (h : wpAny (model prog w) A (call (.ref f) [.ref x, b]) (fun v s' => ∃ r, v = .bool r ∧ Q (.done (.ret (.bool (!r)))) s') E s) :
    wpAny (model prog w) A (Builtin.«object.__ne__» ⟨[.ref x, b], []⟩) Q E s := by
  unfold Builtin.«object.__ne__»
  refine wpAny_bind (wpAny_of_eq (a := (Value.ref x, [b])) (by first | rfl | kernel_rfl!) ?_)
  refine wpAny_bind (wpAny_cRoomFor hu ?_)
  refine wpAny_bind (m := callSpecialIfBound? (.ref x) (Str.ofString "__eq__") [b]) (ifBound_K X I c.eq c.fn (wpAny_mono h (fun v s' hv => ?_) fun _ _ e => e))
  obtain ⟨r, e, q⟩ := hv
  subst e
  refine wpAny_bind (m := truthy (.bool r)) (wpAny_truthy_bool ?_)
  exact wpAny_pure q
theorem ne_call {Q : Value → Shared → Prop} (hu : A.in1.units < cLine) (X : K.In s.heap) (I : InstAt s.heap x ox C od) (c : EqC K C f)
    (h : wpAny (model prog w) A.in1 (call (.ref f) [.ref x, b]) (fun v s' => ∃ r, v = .bool r ∧ Q (.bool (!r)) s') E s) :
    wpAny (model prog w) A (call (.builtin "object.__ne__") [.ref x, b]) Q E s := by
  have t2 : PySem.W.Looks (model prog w) s.heap (isInstance (.ref x) (.type "object")) true := I.type.andThen (looks_subIn X c.ob)
  refine wpAny_call (codeAny_call_builtin F.cmp_object.ne.plain F.cmpEntry_ne (PySem.W.check_slot F.cmpKind_ne F.cmpSplit_ne t2 (F.cmpArgs_ne _ _) (ne_entry hu X I c (wpAny_mono h (fun v s' hv => ?_) fun _ _ e => e))))
  obtain ⟨r, e, q⟩ := hv
  exact ⟨r, e, q⟩
theorem ne_bound {Q : Option Value → Shared → Prop} (hu : A.in1.units < cLine) (X : K.In s.heap) (I : InstAt s.heap x ox C od) (c : EqC K C f)
    (h : wpAny (model prog w) A.in1 (call (.ref f) [.ref x, b]) (fun v s' => ∃ r, v = .bool r ∧ Q (some (.bool (!r))) s') E s) :
    wpAny (model prog w) A (callSpecialIfBound? (.ref x) "__ne__" [b]) Q E s := by
  simp only [callSpecialIfBound?, bindSpecialIfBound?]
  refine wpAny_holding (wpAny_bind (wpAny_bind (wpAny_bind (I.type.here ((looks_findIn X c.ne).here ?_)))))
  refine wpAny_bind (wpAny_askSetting (wpAny_ite ?_))
  have fin : wpAny (model prog w) A (call (.builtin "object.__ne__") ([.ref x] ++ [b]) >>= fun v => pure (some v)) Q E s :=
    wpAny_bind (ne_call hu X I c (wpAny_mono h (fun v s' ⟨r, e, q⟩ => ⟨r, e, wpAny_pure q⟩) fun _ _ e => e))
  have bd := F.cmp_object.ne.bind (.ref x)
  split
  · refine wpAny_bind ?_
    rw [bd]
    exact wpAny_pure (wpAny_pure (by exact fin))
  · refine wpAny_tryCatch (wpAny_bind ?_)
    rw [bd]
    exact wpAny_pure (wpAny_pure (by exact fin))
theorem ne_K {Q : Value → Shared → Prop} (hu : A.in1.units < cLine) (hu0 : A.units < cLine) (F : Fr h₀ L s.heap m) (X₀ : K.In h₀) (I : InstAt s.heap x ox C od) (hb : PySem.W.Looks (model prog w) s.heap (typeOf b) tb) (hn : PySem.W.notFirst K C tb = true) (c : EqC K C f)
    (h : wpAny (model prog w) A.in1 (call (.ref f) [.ref x, b]) (fun v s' => ∃ r, v = .bool r ∧ Q (.bool (!r)) s') E s) : wpAny (model prog w) A (richCompare .NotEq (.ref x) b) Q E s := by
  have X := X₀.keeps F.keep
  have one : wpAny (model prog w) A (tryCompare (.ref x) (cmpInfo .NotEq).2.1 b) (fun r s' => ∃ v, r = some v ∧ Q v s') E s := by
    unfold tryCompare
    refine wpAny_bind (ne_bound hu X I c (wpAny_mono h (fun v s' ⟨r, e, q⟩ => ⟨r, e, ?_⟩) fun _ _ e => e))
    exact wpAny_pure ⟨_, rfl, q⟩
  have two : ∀ r s', (∃ v, r = some v ∧ Q v s') → ∃ v, r = some v ∧ Q v s' := fun _ _ z => z
  unfold richCompare
  simp only [oneThing_ref]
  refine wpAny_holding (wpAny_bind (wpAny_cRoomFor hu0 ?_))
  refine wpAny_bind (I.type.here (wpAny_bind (hb.here ?_)))
  split
  · rename_i q
    have e : PySem.W.subIn K tb (.ref C) = some false := by
      rcases Bool.or_eq_true_iff.mp hn with e | e
      · rw [beq_iff_eq.mp e] at q; simp at q
      · exact beq_iff_eq.mp e
    refine wpAny_bind ((looks_subIn X e).here ?_)
    simp only [Bool.false_eq_true, if_false]
    refine wpAny_bind (wpAny_mono one (fun r s' ⟨v, ev, hq⟩ => ?_) fun _ _ e => e)
    subst ev
    exact wpAny_pure hq
  · refine wpAny_bind (wpAny_pure ?_)
    simp only [Bool.false_eq_true, if_false]
    refine wpAny_bind (wpAny_mono one (fun r s' ⟨v, ev, hq⟩ => ?_) fun _ _ e => e)
    subst ev
    exact wpAny_pure hq
end
/-! as rules -/
section
variable {X : Cx} {CX : CXT} {k : Nat} {f C : Addr} {fd : FuncData} {ps : List Str} {sp : Sp} {E : XK}
/-- the other operand: an instance of the same class, an int, a tuple -/
inductive Oth (H : Hp) (C : Addr) : V → Prop where
  | ins {a dx : Addr} {fs : List (Str × V)} (h : H a = some (.ins C dx fs)) : Oth H C (.ref a)
  | int (i : Int) : Oth H C (.int i)
  | tup {a : Addr} {xs : List V} (h : H a = some (.tup xs)) : Oth H C (.ref a)
def rEqO (C : Addr) (sp : Sp) (E : XK) (neg : Bool) : R2 := fun x y H Q =>
  ∃ a dx fs, x = .ref a ∧ H a = some (.ins C dx fs) ∧ Oth H C y ∧ sp [.ref a, y] H (fun v H' => ∃ r, v = .bl r ∧ Q (.bl (if neg then !r else r)) H') E
theorem oth_type {pins : List (Addr × Obj)} {σ : L2.St} {H : Hp} {s : Shared} {y : V} {u : Value} (I : Inv X pins σ H s) (ry : RelV y u) (c : EqC X.K C f) (o : Oth H C y) :
    ∃ tb, PySem.W.Looks (model X.prog X.w) s.heap (typeOf u) tb ∧ PySem.W.notFirst X.K C tb = true := by
  cases o with
  | @ins a dx fs h =>
    obtain rfl : u = Value.ref a := ry
    obtain ⟨mA, O, rr, _, _, _⟩ := ins_get I.hok h
    obtain ⟨od, J, hl⟩ := O.look
    exact ⟨_, J.type, by unfold PySem.W.notFirst; simp⟩
  | int i =>
    obtain ⟨t, rfl⟩ := ry
    exact ⟨.type "int", .now, by unfold PySem.W.notFirst; rw [c.ni]; simp⟩
  | @tup a xs h =>
    obtain rfl : u = Value.ref a := ry
    obtain ⟨_, _, _, ob, h1, h2, _⟩ := (show ObjOk X.prog X.w H s.heap a (.tup xs) from I.hok a _ h)
    exact ⟨.type "tuple", h2 ▸ (PySem.W.Looks.ld h1).andThen .now, by unfold PySem.W.notFirst; rw [c.nt]; simp⟩
theorem op_eq_own (c : EqC X.K C f) (F : FnOk X.prog X.w X.K X.mg X.base CX k f fd ps sp) (hr : Room k X.A) (hb : Binds X.K fd ps []) (hx : Passes CX X E) : OpR X (compareOp .Eq) (rEqO C sp E false) := by
  intro pins s σ H x y v u Q I rx ry ⟨a, dx, fs, ex, ha, o, q⟩
  subst ex
  obtain rfl : v = Value.ref a := rx
  obtain ⟨mA, O, rr, _, _, _⟩ := ins_get I.hok ha
  obtain ⟨od, J, hl⟩ := O.look
  obtain ⟨m0, hF⟩ := I.fr
  obtain ⟨tb, lk, nf⟩ := oth_type I ry c o
  show wpAny _ _ (richCompare .Eq (.ref a) u) _ _ _
  refine cmp_K hr.units0 hF I.ok.mod.kin J lk nf c.eq c.fn (thn (run_sub F ⟨hr, rfl⟩ hb hx I (.cons (relR a) (.cons ry .nil)) q) fun r s' ⟨z, H', I', rz, b, ez, q'⟩ => ?_)
  subst ez
  obtain rfl : r = Value.bool b := rz
  exact ⟨_, H', I', relB b, q'⟩
theorem op_ne_own (c : EqC X.K C f) (F : FnOk X.prog X.w X.K X.mg X.base CX k f fd ps sp) (hr : Room (k + 1) X.A) (hb : Binds X.K fd ps []) (hx : Passes CX X E) : OpR X (compareOp .NotEq) (rEqO C sp E true) := by
  intro pins s σ H x y v u Q I rx ry ⟨a, dx, fs, ex, ha, o, q⟩
  subst ex
  obtain rfl : v = Value.ref a := rx
  obtain ⟨mA, O, rr, _, _, _⟩ := ins_get I.hok ha
  obtain ⟨od, J, hl⟩ := O.look
  obtain ⟨m0, hF⟩ := I.fr
  obtain ⟨tb, lk, nf⟩ := oth_type I ry c o
  show wpAny _ _ (richCompare .NotEq (.ref a) u) _ _ _
  refine ne_K (Room.units0 hr.in1) hr.units0 hF I.ok.mod.kin J lk nf c (thn (run_sub F (Sub.in1 ⟨hr, rfl⟩) hb hx I (.cons (relR a) (.cons ry .nil)) q) fun r s' ⟨z, H', I', rz, b, ez, q'⟩ => ?_)
  subst ez
  exact ⟨b, rz, _, H', I', relB (!b), q'⟩
end
end Tw

set_option Elab.async false
set_option linter.all false
set_option maxRecDepth 100000
set_option maxHeartbeats 4000000
namespace Tw
open PySem PySem.Spec PyProof.Rows L2
/-! enumerate(t), t a tuple -/
def enO (s : Shared) : Obj := { cls := .type "enumerate", data := .fields #[.none, .bool false, .ref s.heap.objs.size, rawInt 0, .none, .none] }
theorem enum_newT (t : Addr) (items : Array Value) :
    Meets (Builtin.«enumerate.__new__» ⟨[.type "enumerate", .ref t], []⟩) (fun _ R s => s.heap.IsTuple t items ∧
      R (.ok (.ret (.ref (s.heap.push (itTup t 0)).objs.size))) { s with heap := (s.heap.push (itTup t 0)).push (enO s) }) :=
  .of_wp fun prog w A R s h => by
    obtain ⟨hp, g, d, tk, os⟩ := s
    obtain ⟨h1, h⟩ := h
    have hsub := sub_enumerate
    have q1 : ∀ {A' : Around} {E : Value → Shared → Prop} {Q : Value → Shared → Prop}, Q (.ref hp.objs.size) ⟨hp.push (itTup t 0), g, d, tk, os⟩ → wpAny (model prog w) A' (pyIter (.ref t)) Q E ⟨hp, g, d, tk, os⟩ :=
      fun q => wpAny_pyIter_tuple (s := ⟨hp, g, d, tk, os⟩) h1 q
    wp_walk using q1
    refine wpAny_stack_any fun st => wpAny_pure ?_
    split
    · rename_i c _ _ _ _ _
      cases (c == Value.type "enumerate")
      · wp_walk using q1
        exact ⟨_, rfl, h⟩
      · wp_walk using q1
        exact ⟨_, rfl, h⟩
    · wp_walk using q1
      exact ⟨_, rfl, h⟩
section
variable {prog : Program} {w : World} {A : Around} {E : Value → Shared → Prop} {s : Shared}
theorem call_enumT {t : Addr} {items : Array Value} {Q : Value → Shared → Prop} (hT : s.heap.IsTuple t items)
    (h : ∀ h', IsEnum h' (s.heap.objs.size + 1) s.heap.objs.size 0 .none → h'.IsTupleIter s.heap.objs.size t 0 → h'.objs.size = s.heap.objs.size + 2 →
      (∀ b o, s.heap.get? b = some o → h'.get? b = some o) → Q (.ref (s.heap.objs.size + 1)) { s with heap := h' }) :
    wpAny (model prog w) A (call (.type "enumerate") [.ref t]) Q E s := by
  refine callType_new F.called_enumerate (by decide) (F.typeCall_enumerate_1 _) (F.newCall_enumerate_1 _) (fun obj => F.args_object_init_2 obj _) F.entry_enumerate_new (enum_newT t items) ⟨hT, ?_⟩
  have hz : (s.heap.push (itTup t 0)).objs.size = s.heap.objs.size + 1 := Heap.size_push ..
  show _ ∧ _
  rw [hz]
  have he : IsEnum ((s.heap.push (itTup t 0)).push (enO s)) (s.heap.objs.size + 1) s.heap.objs.size 0 .none := by
    have q := Heap.get?_push_size (s.heap.push (itTup t 0)) (o := enO s) rfl
    rw [hz] at q
    exact q
  have hi : ((s.heap.push (itTup t 0)).push (enO s)).IsTupleIter s.heap.objs.size t 0 := ⟨_, Heap.get?_push_of_some _ (Heap.get?_push_size _ rfl), rfl, rfl⟩
  exact ⟨⟨_, he, rfl⟩, h _ he hi (by rw [Heap.size_push, hz]) fun b o x => Heap.get?_push_of_some _ (Heap.get?_push_of_some _ x)⟩
end
def IteT (K : PySem.W.Frag) (a : Addr) : It :=
  ⟨fun i H => ∃ (xs : List V) (x : V), SqT K H a xs ∧ xs[i]? = some x, fun i H v H' => ∃ T x, v = .ref T ∧ H T = Option.none ∧ H' = upd H T (.tup [.int (i : Nat), x]) ∧ ∀ xs, SqT K H a xs → xs[i]? = some x, fun i H => ∃ xs : List V, SqT K H a xs ∧ xs.length = i⟩
theorem turn_enumT {P : Program} {w : World} {K : PySem.W.Frag} {elts : List Expr} {kk : Nat} {tpos : Pos} (a e it : Addr) :
    Turn P w K (.Tuple elts kk tpos) (IteT K a) [e, it] e (fun i h => (∃ old, IsEnum h e it ((i : Nat) : Int) old) ∧ h.IsTupleIter it a i ∧ e ≠ it) where
  mem := by simp
  obj := fun i h st b hb => by
    obtain ⟨⟨old, he⟩, ⟨o, ho, hc, hd⟩, _⟩ := st
    rcases (show b = e ∨ b = it by simpa using hb) with rfl | rfl
    · exact ⟨_, he, fun v q => nomatch q⟩
    · exact ⟨o, ho, fun v q => by rw [hd] at q; cases q⟩
  keep := fun i h h' st k => let ⟨⟨old, he⟩, hi, hne⟩ := st; ⟨⟨old, k e (by simp) _ he⟩, hi.at fun o q => k it (by simp) o q, hne⟩
  item := by
    intro X hP hw hK hc i pins s σ H E I hf st hg
    subst hP hw hK
    obtain ⟨⟨old, he⟩, hit, hne⟩ := st
    obtain ⟨xs, x, hq, hx⟩ := hg
    obtain ⟨its, rv, p, hz⟩ := I.tuple hq
    have hil : i < xs.length := (List.getElem?_eq_some_iff.mp hx).1
    have hlen := rv.length
    have hel : e < s.heap.objs.size := Heap.lt_size he
    have hitl : it < s.heap.objs.size := by obtain ⟨_, q, _⟩ := hit; exact Heap.lt_size q
    have hae : e ≠ a := fun z => by
      obtain ⟨oo, h1, h2, _⟩ := p
      rw [← z, he] at h1
      cases h1
      injection h2 with q
      exact absurd q (by decide)
    have hia : it ≠ a := fun z => by
      obtain ⟨oo, h1, h2, _⟩ := p
      obtain ⟨o2, h3, h4, _⟩ := hit
      rw [← z, h3] at h1
      cases h1
      rw [h4] at h2
      injection h2 with q
      exact absurd q (by decide)
    have D := Draws.tuple (prog := X.prog) (w := X.w) (A := X.A.in1) (I.ok.hd hc) it a hia.symm its.toArray
    refine wpAny_pyNext_enum_itemD D he ⟨hit, p⟩ (by rw [List.size_toArray]; omega) hne (by simp [hne, hae]) fun u h' tk hu ho hst hT hsz hk => ?_
    obtain ⟨u2, hu2, ru⟩ := rv.get hx
    obtain rfl : u = u2 := by
      rw [List.getElem?_toArray] at hu
      exact Option.some.inj (hu.symm.trans hu2)
    refine ⟨_, rfl, wpAny_letOwnedTupleGo_enum (s := { s with heap := h', toks := tk + 1 }) ho fun h'' he' sb => ?_⟩
    have hT2 : h''.get? s.heap.objs.size = some { cls := .type "tuple", data := .seq #[.int i tk, u] } := (sb.2 _ (Nat.ne_of_gt hel)).trans hT
    have new : ObjOk X.prog X.w (upd H s.heap.objs.size (.tup [.int (i : Nat), x])) h'' s.heap.objs.size (.tup [.int (i : Nat), x]) :=
      ⟨by show 2 ≤ sizeLine; decide, [.int i tk, u], .cons ⟨_, rfl⟩ (.cons ru .nil), ⟨_, hT2, rfl, _, rfl⟩⟩
    have I1 : Inv X pins σ (upd H s.heap.objs.size (.tup [.int (i : Nat), x])) { s with heap := h'', toks := tk + 1 } :=
      I.turnedNew (ch := [e, it]) (fun b ob hb q => (sb.2 b (fun z => hb (by simp [z]))).trans (hk b ob (fun z => hb (by simp [z])) (fun z => hb (by simp [z])) q)) hf (Nat.le_refl _) new
    refine ⟨.ref s.heap.objs.size, _, I1, rfl, ⟨_, x, rfl, I.hok.fresh (Nat.le_refl _), rfl, fun ys hy => by rw [I.tuple_inj hy hq]; exact hx⟩, ⟨⟨u, ?_⟩, hst.1.at fun o q => (sb.2 it (Ne.symm hne)).trans q, hne⟩, fun b hb => ?_⟩
    · rw [show ((i + 1 : Nat) : Int) = (i : Int) + 1 by omega]
      exact he'
    · have hb' : b < s.heap.objs.size := by
        rcases (show b = e ∨ b = it by simpa using hb) with rfl | rfl
        · exact hel
        · exact hitl
      rw [upd_ne (Nat.ne_of_lt hb')]
      exact (hf b hb).1
  done := by
    intro X hP hw hK hc i pins s σ H E I hf st hg
    subst hP hw hK
    obtain ⟨⟨old, he⟩, hit, hne⟩ := st
    obtain ⟨xs, hq, hx⟩ := hg
    obtain ⟨its, rv, p, hz⟩ := I.tuple hq
    obtain ⟨f0, f1, f2, f3, f4, f5⟩ := hf it (by simp)
    have hlen := rv.length
    have hae : e ≠ a := fun z => by
      obtain ⟨oo, h1, h2, _⟩ := p
      rw [← z, he] at h1
      cases h1
      injection h2 with q
      exact absurd q (by decide)
    have hia : it ≠ a := fun z => by
      obtain ⟨oo, h1, h2, _⟩ := p
      obtain ⟨o2, h3, h4, _⟩ := hit
      rw [← z, h3] at h1
      cases h1
      rw [h4] at h2
      injection h2 with q
      exact absurd q (by decide)
    have D := Draws.tuple (prog := X.prog) (w := X.w) (A := X.A.in1) (I.ok.hd hc) it a hia.symm its.toArray
    have en : its.toArray.size = i := by rw [List.size_toArray]; omega
    refine wpAny_pyNext_enum_endD D he (by rw [en]; exact ⟨hit, p⟩) fun h' eb => ⟨rfl, I.turned (t' := s.toks) (fun b o hb q => eb b o hb q) f0 f1 f3 f4 f5⟩
  self := fun A i s Q E st h => let ⟨⟨_, he⟩, _⟩ := st; wpAny_pyIter_enum he h
theorem walk_enumT {K : PySem.W.Frag} {a : Addr} {xs : List V} : Walk (IteT K a) xs.length (fun H => SqT K H a xs) (YPair (fun i => some (.int (i : Nat))) (fun i => xs[i]?)) := by
  refine ⟨fun i _ hi q => ⟨xs, xs[i], q, by simp [hi]⟩, fun _ q => ⟨xs, q, rfl⟩, fun i H v H' _ q y => ?_⟩
  obtain ⟨T, x, h1, h2, h3, h4⟩ := y
  exact ⟨T, .int (i : Nat), x, h1, h2, h3, rfl, h4 xs q⟩
/-- enumerate of a list or of a tuple -/
def iEnS (K : PySem.W.Frag) (ta : TA) : TI := fun σ H R => ta σ H fun vs H1 => ∃ a xs, vs = [.ref a] ∧ ((SqL K H1 a xs ∧ R (Ite K a) H1) ∨ (SqT K H1 a xs ∧ R (IteT K a) H1))
theorem pi_enS {X : Cx} {e : Expr} {ta : TA} {p pos tpos : Pos} {elts : List Expr} {kk : Nat} (hg : Gl X "enumerate") (hm : X.mg "enumerate" = Option.none) (ha : PA X [e] ta) (hs : starEach [e] X.env = [(false, eval e X.env)] := by rfl) :
    PI X (.Tuple elts kk tpos) (.Call (.Name "enumerate" p) [e] [] pos) (iEnS X.K ta) := by
  refine ⟨fun pins s σ H R I h => ?_⟩
  refine Call_ (ld_blt I hg hm boot_enumerate (PyProof.Rows.callWith_type1 (thn (ha.run pos pins s σ H _ I h) fun us s1 ⟨vs, H1, I1, r1, a, xs, ex, q1⟩ => ?_) hs rfl))
  subst ex
  obtain ⟨u, rfl, ru⟩ := r1.one
  obtain rfl : u = Value.ref a := ru
  have fr : ∀ b ∈ [s1.heap.objs.size + 1, s1.heap.objs.size], FpOk X pins H1 b := fun b hb => by
    have hle : s1.heap.objs.size ≤ b := by
      rcases (show b = s1.heap.objs.size + 1 ∨ b = s1.heap.objs.size by simpa using hb) with z | z <;> omega
    exact I1.fpOk hle (I1.hok.fresh hle)
  rcases q1 with ⟨hq, q⟩ | ⟨hq, q⟩
  · obtain ⟨its, rv, p', hz⟩ := I1.list hq
    exact call_enumerate_list p'.isList fun h' he hit hsz hk => wpAny_pyIter_enum he ⟨_, _, _, _, H1, rfl, I1.kept (t' := s1.toks) hk, turn_enum a (s1.heap.objs.size + 1) s1.heap.objs.size, ⟨⟨.none, he⟩, hit, Nat.succ_ne_self _⟩, fr, q⟩
  · obtain ⟨its, rv, p', hz⟩ := I1.tuple hq
    exact call_enumT p' fun h' he hit hsz hk => wpAny_pyIter_enum he ⟨_, _, _, _, H1, rfl, I1.kept (t' := s1.toks) hk, turn_enumT a (s1.heap.objs.size + 1) s1.heap.objs.size, ⟨⟨.none, he⟩, hit, Nat.succ_ne_self _⟩, fr, q⟩
end Tw

set_option Elab.async false
set_option linter.all false
set_option maxRecDepth 100000
set_option maxHeartbeats 2000000
namespace Tw
open PySem PySem.Spec PyProof.Rows L2
def topS (i : Nat) : Stmt := PySem.Challenge.pw_heaprows_k02_whole_rows.main.body.getD i (.Pass ⟨0, 0, 0, 0⟩)
abbrev s_is_integer : Stmt := topS 11
theorem sc_is_integer : FnScope ["thing"] ["thing"] (defScope s_is_integer) := ⟨rfl, rfl, rfl, by decide +kernel, rfl, by decide +kernel, by decide +kernel⟩
abbrev s_is_integer_from : Stmt := topS 12
theorem sc_is_integer_from : FnScope ["thing", "least", "greatest"] ["thing", "least", "greatest"] (defScope s_is_integer_from) := ⟨rfl, rfl, rfl, by decide +kernel, rfl, by decide +kernel, by decide +kernel⟩
abbrev s_is_key : Stmt := topS 13
theorem sc_is_key : FnScope ["thing"] ["thing"] (defScope s_is_key) := ⟨rfl, rfl, rfl, by decide +kernel, rfl, by decide +kernel, by decide +kernel⟩
abbrev s_check_arms : Stmt := topS 14
theorem sc_check_arms : FnScope ["arms"] ["arms"] (defScope s_check_arms) := ⟨rfl, rfl, rfl, by decide +kernel, rfl, by decide +kernel, by decide +kernel⟩
abbrev s_check_many : Stmt := topS 15
theorem sc_check_many : FnScope ["many"] ["many"] (defScope s_check_many) := ⟨rfl, rfl, rfl, by decide +kernel, rfl, by decide +kernel, by decide +kernel⟩
abbrev s_check_place : Stmt := topS 16
theorem sc_check_place : FnScope ["place", "many"] ["place", "many"] (defScope s_check_place) := ⟨rfl, rfl, rfl, by decide +kernel, rfl, by decide +kernel, by decide +kernel⟩
abbrev s_row_of : Stmt := topS 17
theorem sc_row_of : FnScope ["row", "index", "key"] ["row"] (defScope s_row_of) := ⟨rfl, rfl, rfl, by decide +kernel, rfl, by decide +kernel, by decide +kernel⟩
abbrev s_t___init__ : Stmt := inClass (topS 19) 0
theorem sc_t___init__ : FnScope ["self", "many", "arms"] ["self", "many", "arms"] (defScope s_t___init__) := ⟨rfl, rfl, rfl, by decide +kernel, rfl, by decide +kernel, by decide +kernel⟩
abbrev s_t_of : Stmt := inClass (topS 19) 1
theorem sc_t_of : FnScope ["cls", "row", "arms"] ["cls", "row", "arms"] (defScope s_t_of) := ⟨rfl, rfl, rfl, by decide +kernel, rfl, by decide +kernel, by decide +kernel⟩
abbrev s_t___iter__ : Stmt := inClass (topS 19) 4
theorem sc_t___iter__ : FnScope ["self"] ["self"] (defScope s_t___iter__) := ⟨rfl, rfl, rfl, by decide +kernel, rfl, by decide +kernel, by decide +kernel⟩
abbrev s_t_parent : Stmt := inClass (topS 19) 7
theorem sc_t_parent : FnScope ["self", "place"] ["self", "place"] (defScope s_t_parent) := ⟨rfl, rfl, rfl, by decide +kernel, rfl, by decide +kernel, by decide +kernel⟩
abbrev s_t_way_to : Stmt := inClass (topS 19) 8
theorem sc_t_way_to : FnScope ["self", "place", "way", "above"] ["self", "place"] (defScope s_t_way_to) := ⟨rfl, rfl, rfl, by decide +kernel, rfl, by decide +kernel, by decide +kernel⟩
abbrev s_t_subtree : Stmt := inClass (topS 19) 12
theorem sc_t_subtree : FnScope ["self", "place", "below"] ["self", "place"] (defScope s_t_subtree) := ⟨rfl, rfl, rfl, by decide +kernel, rfl, by decide +kernel, by decide +kernel⟩
abbrev s_is_heap : Stmt := topS 21
theorem sc_is_heap : FnScope ["row", "arms"] ["row", "arms"] (defScope s_is_heap) := ⟨rfl, rfl, rfl, by decide +kernel, rfl, by decide +kernel, by decide +kernel⟩
abbrev s_faults : Stmt := topS 22
theorem sc_faults : FnScope ["row", "arms", "tree", "place"] ["row", "arms"] (defScope s_faults) := ⟨rfl, rfl, rfl, by decide +kernel, rfl, by decide +kernel, by decide +kernel⟩
abbrev s_falls : Stmt := topS 23
theorem sc_falls : FnScope ["row", "arms", "tree", "place", "below"] ["row", "arms"] (defScope s_falls) := ⟨rfl, rfl, rfl, by decide +kernel, rfl, by decide +kernel, by decide +kernel⟩
abbrev s_ranks : Stmt := topS 24
theorem sc_ranks : FnScope ["row", "keys", "pairs", "ascending", "key", "place", "pair"] ["row"] (defScope s_ranks) := ⟨rfl, rfl, rfl, by decide +kernel, rfl, by decide +kernel, by decide +kernel⟩
abbrev s__law_number : Stmt := topS 26
theorem sc__law_number : FnScope ["script", "index", "cells", "cell", "low", "high", "total", "blend"] ["script", "index"] (defScope s__law_number) := ⟨rfl, rfl, rfl, by decide +kernel, rfl, by decide +kernel, by decide +kernel⟩
abbrev s__law_take : Stmt := topS 27
theorem sc__law_take : FnScope ["draw", "many"] ["draw", "many"] (defScope s__law_take) := ⟨rfl, rfl, rfl, by decide +kernel, rfl, by decide +kernel, by decide +kernel⟩
abbrev s__law_pick : Stmt := topS 28
theorem sc__law_pick : FnScope ["draw", "things"] ["draw", "things"] (defScope s__law_pick) := ⟨rfl, rfl, rfl, by decide +kernel, rfl, by decide +kernel, by decide +kernel⟩
abbrev s__law_parent : Stmt := topS 29
theorem sc__law_parent : FnScope ["wide", "place"] ["wide", "place"] (defScope s__law_parent) := ⟨rfl, rfl, rfl, by decide +kernel, rfl, by decide +kernel, by decide +kernel⟩
abbrev s__law_way : Stmt := topS 30
theorem sc__law_way : FnScope ["wide", "place", "way", "lap"] ["wide", "place"] (defScope s__law_way) := ⟨rfl, rfl, rfl, by decide +kernel, rfl, by decide +kernel, by decide +kernel⟩
abbrev s__law_subtree : Stmt := topS 31
theorem sc__law_subtree : FnScope ["wide", "many", "place", "other"] ["wide", "many", "place"] (defScope s__law_subtree) := ⟨rfl, rfl, rfl, by decide +kernel, rfl, by decide +kernel, by decide +kernel⟩
abbrev s__law_arms : Stmt := topS 32
theorem sc__law_arms : FnScope ["draw"] ["draw"] (defScope s__law_arms) := ⟨rfl, rfl, rfl, by decide +kernel, rfl, by decide +kernel, by decide +kernel⟩
abbrev s__law_keys : Stmt := topS 33
theorem sc__law_keys : FnScope ["draw", "most", "span", "turn"] ["draw", "most", "span"] (defScope s__law_keys) := ⟨rfl, rfl, rfl, by decide +kernel, rfl, by decide +kernel, by decide +kernel⟩
abbrev s__law_is_heap : Stmt := topS 34
theorem sc__law_is_heap : FnScope ["row", "wide", "place", "above"] ["row", "wide"] (defScope s__law_is_heap) := ⟨rfl, rfl, rfl, by decide +kernel, rfl, by decide +kernel, by decide +kernel⟩
abbrev s__law_heap : Stmt := topS 35
theorem sc__law_heap : FnScope ["keys", "wide", "row", "key", "place", "lap", "above"] ["keys", "wide"] (defScope s__law_heap) := ⟨rfl, rfl, rfl, by decide +kernel, rfl, by decide +kernel, by decide +kernel⟩
abbrev s__law_row_right : Stmt := topS 36
theorem sc__law_row_right : FnScope ["row", "wide", "place", "wrong", "pairs", "due", "key", "less", "other", "one"] ["row", "wide"] (defScope s__law_row_right) := ⟨rfl, rfl, rfl, by decide +kernel, rfl, by decide +kernel, by decide +kernel⟩
abbrev s_law : Stmt := topS 37
theorem sc_law : FnScope ["script", "draw", "turn", "wide", "keys", "row"] ["script"] (defScope s_law) := ⟨rfl, rfl, rfl, by decide +kernel, rfl, by decide +kernel, by decide +kernel⟩
/-- where the text's defs stand -/
structure Ad where
  f_is_integer : Addr
  d_is_integer : FuncData
  f_is_integer_from : Addr
  d_is_integer_from : FuncData
  f_is_key : Addr
  d_is_key : FuncData
  f_check_arms : Addr
  d_check_arms : FuncData
  f_check_many : Addr
  d_check_many : FuncData
  f_check_place : Addr
  d_check_place : FuncData
  f_row_of : Addr
  d_row_of : FuncData
  f_t___init__ : Addr
  d_t___init__ : FuncData
  f_t_of : Addr
  d_t_of : FuncData
  f_t___iter__ : Addr
  d_t___iter__ : FuncData
  f_t_parent : Addr
  d_t_parent : FuncData
  f_t_way_to : Addr
  d_t_way_to : FuncData
  f_t_subtree : Addr
  d_t_subtree : FuncData
  f_is_heap : Addr
  d_is_heap : FuncData
  f_faults : Addr
  d_faults : FuncData
  f_falls : Addr
  d_falls : FuncData
  f_ranks : Addr
  d_ranks : FuncData
  f__law_number : Addr
  d__law_number : FuncData
  f__law_take : Addr
  d__law_take : FuncData
  f__law_pick : Addr
  d__law_pick : FuncData
  f__law_parent : Addr
  d__law_parent : FuncData
  f__law_way : Addr
  d__law_way : FuncData
  f__law_subtree : Addr
  d__law_subtree : FuncData
  f__law_arms : Addr
  d__law_arms : FuncData
  f__law_keys : Addr
  d__law_keys : FuncData
  f__law_is_heap : Addr
  d__law_is_heap : FuncData
  f__law_heap : Addr
  d__law_heap : FuncData
  f__law_row_right : Addr
  d__law_row_right : FuncData
  f_law : Addr
  d_law : FuncData
  C : Addr
  po : Addr
/-- what the top has written -/
structure Tx (K : PySem.W.Frag) (mg : Str → Option Value) (A : Ad) : Prop where
  F_is_integer : Fun K "is_integer" "is_integer" s_is_integer A.f_is_integer A.d_is_integer
  m_is_integer : mg "is_integer" = some (.ref A.f_is_integer)
  F_is_integer_from : Fun K "is_integer_from" "is_integer_from" s_is_integer_from A.f_is_integer_from A.d_is_integer_from
  m_is_integer_from : mg "is_integer_from" = some (.ref A.f_is_integer_from)
  F_is_key : Fun K "is_key" "is_key" s_is_key A.f_is_key A.d_is_key
  m_is_key : mg "is_key" = some (.ref A.f_is_key)
  F_check_arms : Fun K "check_arms" "check_arms" s_check_arms A.f_check_arms A.d_check_arms
  m_check_arms : mg "check_arms" = some (.ref A.f_check_arms)
  F_check_many : Fun K "check_many" "check_many" s_check_many A.f_check_many A.d_check_many
  m_check_many : mg "check_many" = some (.ref A.f_check_many)
  F_check_place : Fun K "check_place" "check_place" s_check_place A.f_check_place A.d_check_place
  m_check_place : mg "check_place" = some (.ref A.f_check_place)
  F_row_of : Fun K "row_of" "row_of" s_row_of A.f_row_of A.d_row_of
  m_row_of : mg "row_of" = some (.ref A.f_row_of)
  F_t___init__ : FunD K "__init__" "Tree.__init__" (defArgs s_t___init__) (defBody s_t___init__) (defScope s_t___init__) [] [("arms", V.int 2)] A.f_t___init__ A.d_t___init__
  F_t_of : FunD K "of" "Tree.of" (defArgs s_t_of) (defBody s_t_of) (defScope s_t_of) [] [("arms", V.int 2)] A.f_t_of A.d_t_of
  F_t___iter__ : Fun K "__iter__" "Tree.__iter__" s_t___iter__ A.f_t___iter__ A.d_t___iter__
  D_t___iter__ : Dn K A.C "__iter__" A.f_t___iter__
  F_t_parent : Fun K "parent" "Tree.parent" s_t_parent A.f_t_parent A.d_t_parent
  M_t_parent : Meth K A.C "parent" A.f_t_parent
  F_t_way_to : Fun K "way_to" "Tree.way_to" s_t_way_to A.f_t_way_to A.d_t_way_to
  M_t_way_to : Meth K A.C "way_to" A.f_t_way_to
  F_t_subtree : Fun K "subtree" "Tree.subtree" s_t_subtree A.f_t_subtree A.d_t_subtree
  M_t_subtree : Meth K A.C "subtree" A.f_t_subtree
  F_is_heap : FunD K "is_heap" "is_heap" (defArgs s_is_heap) (defBody s_is_heap) (defScope s_is_heap) [] [("arms", V.int 2)] A.f_is_heap A.d_is_heap
  m_is_heap : mg "is_heap" = some (.ref A.f_is_heap)
  F_faults : FunD K "faults" "faults" (defArgs s_faults) (defBody s_faults) (defScope s_faults) [] [("arms", V.int 2)] A.f_faults A.d_faults
  m_faults : mg "faults" = some (.ref A.f_faults)
  F_falls : FunD K "falls" "falls" (defArgs s_falls) (defBody s_falls) (defScope s_falls) [] [("arms", V.int 2)] A.f_falls A.d_falls
  m_falls : mg "falls" = some (.ref A.f_falls)
  F_ranks : Fun K "ranks" "ranks" s_ranks A.f_ranks A.d_ranks
  m_ranks : mg "ranks" = some (.ref A.f_ranks)
  F__law_number : Fun K "_law_number" "_law_number" s__law_number A.f__law_number A.d__law_number
  m__law_number : mg "_law_number" = some (.ref A.f__law_number)
  F__law_take : Fun K "_law_take" "_law_take" s__law_take A.f__law_take A.d__law_take
  m__law_take : mg "_law_take" = some (.ref A.f__law_take)
  F__law_pick : Fun K "_law_pick" "_law_pick" s__law_pick A.f__law_pick A.d__law_pick
  m__law_pick : mg "_law_pick" = some (.ref A.f__law_pick)
  F__law_parent : Fun K "_law_parent" "_law_parent" s__law_parent A.f__law_parent A.d__law_parent
  m__law_parent : mg "_law_parent" = some (.ref A.f__law_parent)
  F__law_way : Fun K "_law_way" "_law_way" s__law_way A.f__law_way A.d__law_way
  m__law_way : mg "_law_way" = some (.ref A.f__law_way)
  F__law_subtree : Fun K "_law_subtree" "_law_subtree" s__law_subtree A.f__law_subtree A.d__law_subtree
  m__law_subtree : mg "_law_subtree" = some (.ref A.f__law_subtree)
  F__law_arms : Fun K "_law_arms" "_law_arms" s__law_arms A.f__law_arms A.d__law_arms
  m__law_arms : mg "_law_arms" = some (.ref A.f__law_arms)
  F__law_keys : Fun K "_law_keys" "_law_keys" s__law_keys A.f__law_keys A.d__law_keys
  m__law_keys : mg "_law_keys" = some (.ref A.f__law_keys)
  F__law_is_heap : Fun K "_law_is_heap" "_law_is_heap" s__law_is_heap A.f__law_is_heap A.d__law_is_heap
  m__law_is_heap : mg "_law_is_heap" = some (.ref A.f__law_is_heap)
  F__law_heap : Fun K "_law_heap" "_law_heap" s__law_heap A.f__law_heap A.d__law_heap
  m__law_heap : mg "_law_heap" = some (.ref A.f__law_heap)
  F__law_row_right : Fun K "_law_row_right" "_law_row_right" s__law_row_right A.f__law_row_right A.d__law_row_right
  m__law_row_right : mg "_law_row_right" = some (.ref A.f__law_row_right)
  F_law : Fun K "law" "law" s_law A.f_law A.d_law
  m_law : mg "law" = some (.ref A.f_law)
  c_MOST_ARMS : mg "MOST_ARMS" = some (.int 4 0) ∨ ∃ t, mg "MOST_ARMS" = some (.int 4 t)
  c_MOST_PLACES : mg "MOST_PLACES" = some (.int 12 0) ∨ ∃ t, mg "MOST_PLACES" = some (.int 12 t)
  c_GREATEST_KEY : mg "GREATEST_KEY" = some (.int 1000000000 0) ∨ ∃ t, mg "GREATEST_KEY" = some (.int 1000000000 t)
  g_isinstance : mg "isinstance" = none
  g_int : mg "int" = none
  g_bool : mg "bool" = none
  g_len : mg "len" = none
  g_tuple : mg "tuple" = none
  g_list : mg "list" = none
  g_range : mg "range" = none
  g_enumerate : mg "enumerate" = none
  g_iter : mg "iter" = none
  g_sorted : mg "sorted" = none
  g_sum : mg "sum" = none
  g_any : mg "any" = none
  cT : Cls K A.C
  nMany : NoAttr K A.C "many"
  nArms : NoAttr K A.C "arms"
  nPl : NoAttr K A.C "_places"
  mC : mg "Tree" = some (.ref A.C)
  mkC : Mk K A.C A.f_t___init__
  cr : ClX.CRead K A.C (.type "type")
  cof : ClX.CMet K A.C (.type "type") "of" A.po A.f_t_of

section
variable {P : Program} {w : World} {K : PySem.W.Frag} {mg : Str → Option Value} {base : Heap} {A : Ad}
theorem cst {x : Str} {n : Int} (h : mg x = some (.int n 0) ∨ ∃ t, mg x = some (.int n t)) : ∃ t, mg x = some (.int n t) := h.elim (fun e => ⟨0, e⟩) id

/-- True just for ints -/
def spIs (K : PySem.W.Frag) : Sp := fun vs H Q _ => ∃ x : V, vs = [x] ∧
  ((∃ i, x = .int i ∧ Q (.bl true) H) ∨ (∃ n b1 b2, TyX K H x (.type n) ∧ kitB n "int" = some b1 ∧ kitB n "bool" = some b2 ∧ (b1 && !b2) = false ∧ Q (.bl false) H))
theorem ok_is (T : Tx K mg A) : FnOk P w K mg base CX0 1 A.f_is_integer A.d_is_integer ["thing"] (spIs K) := by
  refine T.F_is_integer.ok sc_is_integer (fun vs H Q E h => ?_) (fun cdv B outer s H vs Q E hr h => ?_)
  · obtain ⟨x, rfl, _⟩ := h
    rfl
  · obtain ⟨x, rfl, h⟩ := h
    refine ⟨_, pss_one (ps_ret (pe_and (pe_callB call_isi (by rfl) T.g_isinstance (by decide +kernel) (pa_cons (pv 0) (pa_cons (pe_bltn (v := .ty "int") (by rfl) T.g_int (by decide +kernel) rfl) pa_nil)))
      (pe_one (pe_not (pe_callB call_isi (by rfl) T.g_isinstance (by decide +kernel) (pa_cons (pv 0) (pa_cons (pe_bltn (v := .ty "bool") (by rfl) T.g_bool (by decide +kernel) rfl) pa_nil))))))), ?_⟩
    rcases h with ⟨i, rfl, q⟩ | ⟨n, b1, b2, ty, k1, k2, hb, q⟩
    · refine ⟨_, rfl, _, _, .type "int", .type "int", true, rfl, .ty "int", .base (.int i), kit_ty (by decide +kernel), true, rfl, iteT ?_⟩
      exact ⟨_, rfl, _, _, .type "int", .type "bool", false, rfl, .ty "bool", .base (.int i), kit_ty (by decide +kernel), false, rfl, q⟩
    · refine ⟨_, rfl, _, _, .type n, .type "int", b1, rfl, .ty "int", ty, kit_ty k1, b1, rfl, ?_⟩
      cases b1 with
      | false => exact iteF q
      | true =>
        cases b2 with
        | false => cases hb
        | true => exact iteT ⟨_, rfl, _, _, .type n, .type "bool", true, rfl, .ty "bool", ty, kit_ty k2, true, rfl, q⟩
theorem b_is (T : Tx K mg A) : L2.Binds K A.d_is_integer ["thing"] [] := T.F_is_integer.binds fun _ _ _ _ _ _ us hl => match us, hl with | [_], _ => rfl
/-- True just for ints within; other things by their class -/
def spII (K : PySem.W.Frag) : Sp := fun vs H Q _ => ∃ (x : V) (a b : Int), vs = [x, .int a, .int b] ∧
  ((∃ i, x = .int i ∧ Q (.bl (decide (a ≤ i ∧ i ≤ b))) H) ∨ (∃ n b1 b2, TyX K H x (.type n) ∧ kitB n "int" = some b1 ∧ kitB n "bool" = some b2 ∧ (b1 && !b2) = false ∧ Q (.bl false) H))
theorem ok_ii (T : Tx K mg A) : FnOk P w K mg base CX0 2 A.f_is_integer_from A.d_is_integer_from ["thing", "least", "greatest"] (spII K) := by
  refine T.F_is_integer_from.ok sc_is_integer_from (fun vs H Q E h => ?_) (fun cdv B outer s H vs Q E hr h => ?_)
  · obtain ⟨x, a, b, rfl, _⟩ := h
    rfl
  · obtain ⟨x, a, b, rfl, h⟩ := h
    refine ⟨_, pss_one (ps_ret (pe_and (pe_call (ok_is T) hr (by rfl) T.m_is_integer T.F_is_integer.kp (b_is T) .nil pass0 (pa_cons (pv 0) pa_nil))
        (pe_one (pe_chain op_le op_le (pv 1) (pv 0) (pv 2))))), ?_⟩
    rcases h with ⟨i, rfl, q⟩ | h
    · refine ⟨_, rfl, _, rfl, .inl ⟨i, rfl, true, rfl, iteT ?_⟩⟩
      refine ⟨_, rfl, _, rfl, _, _, rfl, rfl, _, rfl, ?_⟩
      by_cases h1 : a ≤ i
      · rw [decide_eq_true h1]
        refine iteT ⟨_, rfl, _, _, rfl, rfl, ?_⟩
        have e : decide (a ≤ i ∧ i ≤ b) = decide (i ≤ b) := by simp [h1]
        rw [e] at q
        exact q
      · rw [decide_eq_false h1]
        have e : decide (a ≤ i ∧ i ≤ b) = false := by simp [h1]
        rw [e] at q
        exact iteF q
    · obtain ⟨n, b1, b2, ty, k1, k2, hb, q⟩ := h
      exact ⟨_, rfl, _, rfl, .inr ⟨n, b1, b2, ty, k1, k2, hb, false, rfl, iteF q⟩⟩
theorem b_ii (T : Tx K mg A) : L2.Binds K A.d_is_integer_from ["thing", "least", "greatest"] [] := T.F_is_integer_from.binds fun _ _ _ _ _ _ us hl => match us, hl with | [_, _, _], _ => rfl

/-- is_key of an int -/
def spKey : Sp := fun vs H Q _ => ∃ i : Int, vs = [.int i] ∧ Q (.bl (decide (-1000000000 ≤ i ∧ i ≤ 1000000000))) H
theorem ok_key (T : Tx K mg A) : FnOk P w K mg base CX0 3 A.f_is_key A.d_is_key ["thing"] spKey := by
  refine T.F_is_key.ok sc_is_key (fun vs H Q E h => ?_) (fun cdv B outer s H vs Q E hr h => ?_)
  · obtain ⟨i, rfl, _⟩ := h
    rfl
  · obtain ⟨i, rfl, q⟩ := h
    obtain ⟨t, hg⟩ := cst T.c_GREATEST_KEY
    refine ⟨_, pss_one (ps_ret (pe_call (ok_ii T) hr (by rfl) T.m_is_integer_from T.F_is_integer_from.kp (b_ii T) .nil pass0
      (pa_cons (pv 0) (pa_cons (pe_un un_neg (pe_glob (by rfl) hg (relI _ _))) (pa_cons (pe_glob (by rfl) hg (relI _ _)) pa_nil))))), ?_⟩
    exact ⟨_, rfl, _, rfl, _, _, _, rfl, .inl ⟨i, rfl, q⟩⟩
theorem b_key (T : Tx K mg A) : L2.Binds K A.d_is_key ["thing"] [] := T.F_is_key.binds fun _ _ _ _ _ _ us hl => match us, hl with | [_], _ => rfl
def spCa : Sp := fun vs H Q _ => ∃ i : Int, vs = [.int i] ∧ (1 ≤ i ∧ i ≤ 4) ∧ Q .non H
theorem ok_ca (T : Tx K mg A) : FnOk P w K mg base CX0 3 A.f_check_arms A.d_check_arms ["arms"] spCa := by
  refine T.F_check_arms.ok sc_check_arms (fun vs H Q E h => ?_) (fun cdv B outer s H vs Q E hr h => ?_)
  · obtain ⟨i, rfl, _⟩ := h
    rfl
  · obtain ⟨i, rfl, hi, q⟩ := h
    obtain ⟨t, hg⟩ := cst T.c_MOST_ARMS
    refine ⟨_, pss_one (ps_if (pt_not (pt_val (pe_call (ok_ii T) hr (by rfl) T.m_is_integer_from T.F_is_integer_from.kp (b_ii T) .nil pass0
      (pa_cons (pv 0) (pa_cons pe_int (pa_cons (pe_glob (by rfl) hg (relI _ _)) pa_nil)))))) (pss_one ps_never) pss_nil), ?_⟩
    refine ⟨_, rfl, _, _, _, rfl, .inl ⟨i, rfl, _, rfl, ?_⟩⟩
    rw [decide_eq_true hi]
    exact iteF q
theorem b_ca (T : Tx K mg A) : L2.Binds K A.d_check_arms ["arms"] [] := T.F_check_arms.binds fun _ _ _ _ _ _ us hl => match us, hl with | [_], _ => rfl
def spCm : Sp := fun vs H Q _ => ∃ i : Int, vs = [.int i] ∧ (0 ≤ i ∧ i ≤ 12) ∧ Q .non H
theorem ok_cm (T : Tx K mg A) : FnOk P w K mg base CX0 3 A.f_check_many A.d_check_many ["many"] spCm := by
  refine T.F_check_many.ok sc_check_many (fun vs H Q E h => ?_) (fun cdv B outer s H vs Q E hr h => ?_)
  · obtain ⟨i, rfl, _⟩ := h
    rfl
  · obtain ⟨i, rfl, hi, q⟩ := h
    obtain ⟨t, hg⟩ := cst T.c_MOST_PLACES
    refine ⟨_, pss_one (ps_if (pt_not (pt_val (pe_call (ok_ii T) hr (by rfl) T.m_is_integer_from T.F_is_integer_from.kp (b_ii T) .nil pass0
      (pa_cons (pv 0) (pa_cons pe_int (pa_cons (pe_glob (by rfl) hg (relI _ _)) pa_nil)))))) (pss_one ps_never) pss_nil), ?_⟩
    refine ⟨_, rfl, _, _, _, rfl, .inl ⟨i, rfl, _, rfl, ?_⟩⟩
    rw [decide_eq_true hi]
    exact iteF q
theorem b_cm (T : Tx K mg A) : L2.Binds K A.d_check_many ["many"] [] := T.F_check_many.binds fun _ _ _ _ _ _ us hl => match us, hl with | [_], _ => rfl
def spCp : Sp := fun vs H Q _ => ∃ i n : Int, vs = [.int i, .int n] ∧ (0 ≤ i ∧ i < n) ∧ Q .non H
theorem ok_cp (T : Tx K mg A) : FnOk P w K mg base CX0 3 A.f_check_place A.d_check_place ["place", "many"] spCp := by
  refine T.F_check_place.ok sc_check_place (fun vs H Q E h => ?_) (fun cdv B outer s H vs Q E hr h => ?_)
  · obtain ⟨i, n, rfl, _⟩ := h
    rfl
  · obtain ⟨i, n, rfl, hi, q⟩ := h
    refine ⟨_, pss_one (ps_if (pt_not (pt_val (pe_call (ok_ii T) hr (by rfl) T.m_is_integer_from T.F_is_integer_from.kp (b_ii T) .nil pass0
      (pa_cons (pv 0) (pa_cons pe_int (pa_cons (pe_op op_sub (pv 1) pe_int) pa_nil)))))) (pss_one ps_never) pss_nil), ?_⟩
    refine ⟨_, rfl, _, rfl, _, _, rfl, rfl, _, _, _, rfl, .inl ⟨i, rfl, _, rfl, ?_⟩⟩
    rw [decide_eq_true (show 0 ≤ i ∧ i ≤ n - 1 by omega)]
    exact iteF q
theorem b_cp (T : Tx K mg A) : L2.Binds K A.d_check_place ["place", "many"] [] := T.F_check_place.binds fun _ _ _ _ _ _ us hl => match us, hl with | [_, _], _ => rfl
/-- a list or a tuple -/
def Sq (H : Hp) (a : Addr) (xs : List V) : Prop := H a = some (.lst xs) ∨ H a = some (.tup xs)
theorem Sq.same {H H' : Hp} {a : Addr} {xs : List V} (h : Sq H a xs) (s : Same H H') : Sq H' a xs := h.elim (fun e => .inl (s _ _ e)) fun e => .inr (s _ _ e)
theorem Sq.len {K : PySem.W.Frag} {H : Hp} {a : Addr} {xs : List V} (h : Sq H a xs) : SqL K H a xs ∨ SqT K H a xs := h.elim (fun e => .inl (SqL.of e)) fun e => .inr (SqT.of e)
/-- keys go in, a tuple of them comes out -/
def spRow (K : PySem.W.Frag) : Sp := fun vs H Q _ => ∃ (a : Addr) (ns : List Int), vs = [.ref a] ∧ Sq H a (ns.map V.int) ∧ ns.length ≤ 12 ∧ (∀ n ∈ ns, -1000000000 ≤ n ∧ n ≤ 1000000000) ∧
  ∀ H' p, Same H H' → H' p = some (.tup (ns.map V.int)) → Q (.ref p) H'
theorem ok_row (T : Tx K mg A) : FnOk P w K mg base CX0 4 A.f_row_of A.d_row_of ["row"] (spRow K) := by
  refine T.F_row_of.ok sc_row_of (fun vs H Q E h => ?_) (fun cdv B outer s H vs Q E hr h => ?_)
  · obtain ⟨a, ns, rfl, _⟩ := h
    rfl
  · obtain ⟨a, ns, rfl, ha, hl, hk, q⟩ := h
    obtain ⟨t, hg⟩ := cst T.c_MOST_PLACES
    refine ⟨_, pss_cons (ps_if (PW.pt (pw_or (pt_not (pt_val (pe_callB call_isiT (by rfl) T.g_isinstance (by decide +kernel) (pa_cons (pv 0) (pa_cons (pe_tup (pa_cons (pe_bltn (v := .ty "list") (by rfl) T.g_list (by decide +kernel) rfl) (pa_cons (pe_bltn (v := .ty "tuple") (by rfl) T.g_tuple (by decide +kernel) rfl) pa_nil))) pa_nil)))))
        (pw_or1 (pt_cmpR op_gt (pe_callB call_len_seq (by rfl) T.g_len PySem.boot_len (pa_cons (pv 0) pa_nil)) (pe_glob (by rfl) hg (relI _ _)) (nomark _))))) (pss_one ps_never) pss_nil)
      (C8.pss_cut (ps_for PassesOwn.never rfl (pi_enS (by rfl) T.g_enumerate (pa_cons (pv 0) pa_nil)) (pg_tup rfl (pgs_cons (pg_name (i := 1) sc_row_of.nd rfl (Or.inl rfl)) (pgs_cons (pg_name (i := 2) sc_row_of.nd rfl (Or.inl rfl)) pgs_nil)))
        (pss_one (ps_if (pt_not (pt_val (pe_call (ok_key T) hr (by rfl) T.m_is_key T.F_is_key.kp (b_key T) .nil pass0 (pa_cons (pv 2) pa_nil)))) (pss_one ps_never) pss_nil)))
      (pss_one (ps_ret (pe_callTy call_tuple_of (by rfl) T.g_tuple (by decide +kernel) (pa_cons (pv 0) pa_nil))))), ?_⟩
    refine ⟨_, rfl, by show 2 ≤ sizeLine; decide, fun tp htp => ?_⟩
    have ha1 : Sq (upd H tp (.tup [.ty "list", .ty "tuple"])) a (ns.map V.int) := ha.same (Same.up htp)
    have isi : ∃ c b1, TyX K (upd H tp (.tup [.ty "list", .ty "tuple"])) (.ref a) (.type c) ∧ PySem.W.kitOne K (.type c) (.type "list") = some b1 ∧ (b1 = false → PySem.W.kitOne K (.type c) (.type "tuple") = some true) := by
      rcases ha1 with h | h
      · exact ⟨"list", true, .base (.lst h), kit_ty (by decide +kernel), fun z => by cases z⟩
      · exact ⟨"tuple", false, .base (.tup h), kit_ty (by decide +kernel), fun _ => kit_ty (by decide +kernel)⟩
    obtain ⟨c, b1, ty, k1, k2⟩ := isi
    refine ⟨_, tp, _, .type c, [.type "list", .type "tuple"], true, rfl, upd_same, .cons (.ty _) (.cons (.ty _) .nil), ty, kitAny_cons k1 (fun z => kitAny_cons (k2 z) (fun z => by cases z) (fun _ => rfl)) (fun _ => rfl), true, rfl, ?_⟩
    refine iteF ⟨_, rfl, a, _, rfl, ha1.len, _, _, rfl, rfl, _, rfl, ite2 (fun z => ?_) (fun _ => ?_)⟩
    · exfalso
      rw [List.length_map] at z
      have := of_decide_eq_true z
      omega
    refine ⟨fun σ H' => ∃ z y, σ = [some (.ref a), z, y] ∧ Same H H', ?_, ?_⟩
    · rcases ha with ha | ha
      · refine ⟨_, rfl, a, _, rfl, .inl ⟨SqL.of ((Same.up htp) _ _ ha), for_it (walk_enum (xs := ns.map V.int)) (fun i σ H' => ∃ z y, σ = [some (.ref a), z, y] ∧ Same H H') ⟨none, none, rfl, Same.up htp⟩ (fun i σ H' _ ⟨_, _, _, s⟩ => SqL.of (s _ _ ha)) ?_ ?_⟩⟩
        · rintro i v σ H2 H3 hi ⟨z, y, rfl, s⟩ ⟨T', x, x2, rfl, hT, rfl, e1, e2⟩
          obtain ⟨hi', rfl⟩ := ints_at e2
          cases e1
          refine ⟨_, _, rfl, SqT.of upd_same, rfl, _, _, rfl, _, _, rfl, rfl, ?_⟩
          refine ⟨_, rfl, _, rfl, _, rfl, ?_⟩
          rw [decide_eq_true (hk _ (List.getElem_mem hi'))]
          exact iteF ⟨_, _, rfl, s.trans (Same.up hT)⟩
        · rintro σ H2 ⟨z, y, rfl, s⟩
          exact ⟨_, _, rfl, s⟩
      · refine ⟨_, rfl, a, _, rfl, .inr ⟨SqT.of ((Same.up htp) _ _ ha), for_it (walk_enumT (xs := ns.map V.int)) (fun i σ H' => ∃ z y, σ = [some (.ref a), z, y] ∧ Same H H') ⟨none, none, rfl, Same.up htp⟩ (fun i σ H' _ ⟨_, _, _, s⟩ => SqT.of (s _ _ ha)) ?_ ?_⟩⟩
        · rintro i v σ H2 H3 hi ⟨z, y, rfl, s⟩ ⟨T', x, x2, rfl, hT, rfl, e1, e2⟩
          obtain ⟨hi', rfl⟩ := ints_at e2
          cases e1
          refine ⟨_, _, rfl, SqT.of upd_same, rfl, _, _, rfl, _, _, rfl, rfl, ?_⟩
          refine ⟨_, rfl, _, rfl, _, rfl, ?_⟩
          rw [decide_eq_true (hk _ (List.getElem_mem hi'))]
          exact iteF ⟨_, _, rfl, s.trans (Same.up hT)⟩
        · rintro σ H2 ⟨z, y, rfl, s⟩
          exact ⟨_, _, rfl, s⟩
    · rintro σ H2 ⟨z, y, rfl, s⟩
      rcases ha with ha | ha
      · exact ⟨_, rfl, a, _, rfl, .inl ⟨SqL.of (s _ _ ha), fun p hp => q _ _ (s.trans (Same.up hp)) upd_same⟩⟩
      · exact ⟨_, rfl, a, _, rfl, .inr ⟨SqT.of (s _ _ ha), q _ _ s (s _ _ ha)⟩⟩
theorem b_row (T : Tx K mg A) : L2.Binds K A.d_row_of ["row"] [] := T.F_row_of.binds fun _ _ _ _ _ _ us hl => match us, hl with | [_], _ => rfl

end

end Tw

set_option Elab.async false
set_option linter.all false
set_option maxRecDepth 100000
set_option maxHeartbeats 2000000
namespace Tw
open PySem PySem.Spec PyProof.Rows L2
section
variable {P : Program} {w : World} {K : PySem.W.Frag} {mg : Str → Option Value} {base : Heap} {A : Ad}
/-! the tree -/
/-- the places of a tree -/
def pl (n : Nat) : List V := (List.range n).map fun i => V.int (i : Nat)
theorem rg_pl (n : Nat) : rgV 0 (n : Int) = pl n := by
  unfold rgV pl
  rw [show ((n : Int) - 0).toNat = n by omega]
  exact congrArg (fun f => (List.range n).map f) (funext fun i => by rw [Int.zero_add])
theorem n1 : ¬ (("many" : Str) = "arms") := by decide +kernel
theorem n2 : ¬ (("many" : Str) = "_places") := by decide +kernel
theorem n3 : ¬ (("arms" : Str) = "_places") := by decide +kernel
/-- its attributes -/
def tf (n w t : Nat) : List (Str × V) := putF "_places" (.ref t) (putF "arms" (.int w) (putF "many" (.int n) []))
theorem tf_eq (n w t : Nat) : tf n w t = ([("many", V.int n), ("arms", V.int w), ("_places", V.ref t)] : List (Str × V)) := by
  unfold tf
  simp only [putF, n1, n2, n3, if_false]
theorem tf_many (n w t : Nat) : (tf n w t).lookup ("many" : Str) = some (.int n) := by
  unfold tf
  rw [lookup_putF, if_neg n2, lookup_putF, if_neg n1, lookup_putF, if_pos rfl]
theorem tf_arms (n w t : Nat) : (tf n w t).lookup ("arms" : Str) = some (.int w) := by
  unfold tf
  rw [lookup_putF, if_neg n3, lookup_putF, if_pos rfl]
theorem tf_pl (n w t : Nat) : (tf n w t).lookup ("_places" : Str) = some (.ref t) := by
  unfold tf
  rw [lookup_putF, if_pos rfl]
theorem tf_no (n w t : Nat) {m : Str} (h1 : ¬ m = "many") (h2 : ¬ m = "arms") (h3 : ¬ m = "_places") : (tf n w t).lookup m = none := by
  unfold tf
  rw [lookup_putF, if_neg h3, lookup_putF, if_neg h2, lookup_putF, if_neg h1]
  rfl
/-- a tree of n places and w arms stands at p -/
structure TreeAt (C : Addr) (H : Hp) (p n w : Nat) : Prop where
  ob : ∃ dx t, H p = some (.ins C dx (tf n w t)) ∧ H t = some (.tup (pl n))
  hn : n ≤ 12
  hw : 1 ≤ w ∧ w ≤ 4
theorem TreeAt.same {C : Addr} {H H' : Hp} {p n w : Nat} (h : TreeAt C H p n w) (s : Same H H') : TreeAt C H' p n w :=
  ⟨let ⟨dx, t, a, b⟩ := h.ob; ⟨dx, t, s _ _ a, s _ _ b⟩, h.hn, h.hw⟩

def spInit (C : Addr) : Sp := fun vs H Q _ => ∃ (p dx n w : Nat), vs = [.ref p, .int n, .int w] ∧ n ≤ 12 ∧ (1 ≤ w ∧ w ≤ 4) ∧ H p = some (.ins C dx []) ∧
  ∀ (H' : Hp), (∀ b o, H b = some o → b ≠ p → H' b = some o) → TreeAt C H' p n w → Q .non H'
theorem ok_init (T : Tx K mg A) : FnOk P w K mg base CX0 4 A.f_t___init__ A.d_t___init__ ["self", "many", "arms"] (spInit A.C) := by
  refine T.F_t___init__.ok sc_t___init__ (fun vs H Q E h => ?_) (fun cdv B outer s H vs Q E hr h => ?_)
  · obtain ⟨p, dx, n, w, rfl, _⟩ := h
    rfl
  · obtain ⟨p, dx, n, w, rfl, hn, hw, hp, q⟩ := h
    refine ⟨_, PSs.nox (pss_cons (ps_expr (pe_call (ok_ca T) hr (by rfl) T.m_check_arms T.F_check_arms.kp (b_ca T) .nil pass0 (pa_cons (pv 2) pa_nil)))
      (pss_cons (ps_expr (pe_call (ok_cm T) hr (by rfl) T.m_check_many T.F_check_many.kp (b_cm T) .nil pass0 (pa_cons (pv 1) pa_nil)))
      (pss_cons (ps_fld (pv 0) (pv 1) rfl) (pss_cons (ps_fld (pv 0) (pv 2) rfl)
      (pss_one (ps_fld (pv 0) (pe_tupRg rfl (by rfl) T.g_tuple (prg_1 (by rfl) T.g_range (pv 1))) rfl)))))), ?_⟩
    refine ⟨_, rfl, _, rfl, ⟨by omega, by omega⟩, _, rfl, _, rfl, ⟨by omega, by omega⟩, ?_⟩
    refine ⟨_, rfl, _, rfl, p, A.C, dx, _, rfl, hp, T.cT, T.nMany, (by show 0 < 1000; decide), ?_⟩
    refine ⟨_, rfl, _, rfl, p, A.C, dx, _, rfl, upd_same, T.cT, T.nArms, (by show 1 < 1000; decide), ?_⟩
    refine ⟨_, rfl, _, rfl, RgOk.of_le (by omega) (by omega) (by omega) (by omega), fun t ht => ?_⟩
    have npt : p ≠ t := fun z => by
      rw [z, upd_same] at ht
      cases ht
    refine ⟨_, rfl, p, A.C, dx, _, rfl, Eq.trans (upd_ne npt) upd_same, T.cT, T.nPl, (by simp only [putF, n1, if_false]; show 2 < 1000; decide), ?_⟩
    refine q _ (fun b o e hb => ?_) ⟨⟨dx, t, upd_same, ?_⟩, hn, hw⟩
    · have nbt : b ≠ t := ne_of_none (by rw [upd_ne hb, upd_ne hb]; exact e) ht
      rw [upd_ne hb, upd_ne nbt, upd_ne hb, upd_ne hb]
      exact e
    · rw [upd_ne npt.symm, upd_same, rg_pl]

theorem kb_init (T : Tx K mg A) : ∃ mv : List Value, KBn K A.d_t___init__ ["self", "many", "arms"] 2 ["arms"] (fun us ws => us ++ (mv ++ ws)) (fun vs zs => vs ++ zs) := by
  obtain ⟨mv, h⟩ := T.F_t___init__.kbinds0 (ps := ["self", "many", "arms"]) 2 ["arms"] [] (fun us mv ws => us ++ (mv ++ ws)) (by simp) (by simp) (fun r1 r2 r3 => r1.append (r2.append r3))
    (fun D doc pm an cdv ct us mv ws h1 h2 h3 => by
      match us, mv, ws, h1, h2, h3 with
      | [a, b], [], [c], _, _, _ => rfl)
  exact ⟨mv, h⟩
theorem bd_init (T : Tx K mg A) : ∃ ds, Vals [V.int 2] ds ∧ L2.Binds K A.d_t___init__ ["self", "many", "arms"] ds := by
  refine T.F_t___init__.binds0 2 (by simp) rfl (fun D doc pm an cdv ct us ks h1 h2 => ?_)
  match us, ks, h1, h2 with
  | [a, b], [c], _, _ => exact ⟨_, _, _, _, _, _, rfl, rfl, rfl⟩
def spOf (K : PySem.W.Frag) (C : Addr) : Sp := fun vs H Q _ => ∃ (a w : Nat) (ns : List Int), vs = [.ref C, .ref a, .int w] ∧ (1 ≤ w ∧ w ≤ 4) ∧ Sq H a (ns.map V.int) ∧ ns.length ≤ 12 ∧ (∀ n ∈ ns, -1000000000 ≤ n ∧ n ≤ 1000000000) ∧
  ∀ (H' : Hp) p, Same H H' → H p = none → TreeAt C H' p ns.length w → Q (.ref p) H'
theorem ok_of (T : Tx K mg A) : FnOk P w K mg base CX0 6 A.f_t_of A.d_t_of ["cls", "row", "arms"] (spOf K A.C) := by
  obtain ⟨mv, kb⟩ := kb_init T
  refine T.F_t_of.ok sc_t_of (fun vs H Q E h => ?_) (fun cdv B outer s H vs Q E hr h => ?_)
  · obtain ⟨a, w, ns, rfl, _⟩ := h
    rfl
  · obtain ⟨a, w, ns, rfl, hw, ha, hl, hk, q⟩ := h
    refine ⟨_, PSs.nox (pss_cons (ps_expr (pe_call (ok_ca T) (hr.mono (by decide)) (by rfl) T.m_check_arms T.F_check_arms.kp (b_ca T) .nil pass0 (pa_cons (pv 2) pa_nil)))
      (pss_one (ps_ret (pe_makeLK (i := 0) T.mkC (ok_init T) hr kb pass0 (pa_cons (pe_callB call_len_seq (by rfl) T.g_len PySem.boot_len (pa_cons (pe_call (ok_row T) (hr.mono (by decide)) (by rfl) T.m_row_of T.F_row_of.kp (b_row T) .nil pass0 (pa_cons (pv 1) pa_nil)) pa_nil)) pa_nil)
        (pk_cons (pv 2) pk_nil) rfl (Or.inl rfl))))), ?_⟩
    refine ⟨_, rfl, _, rfl, ⟨by omega, by omega⟩, rfl, _, rfl, a, ns, rfl, ha, hl, hk, fun H1 p s1 hp => ?_⟩
    refine ⟨p, _, rfl, .inr (SqT.of hp), _, rfl, rfl, rfl, fun x dx nx ndx nex => ?_⟩
    refine ⟨x, dx, ns.length, w, by rw [List.length_map]; rfl, hl, hw, upd_same, fun H2 k2 t2 => ⟨rfl, q H2 x (fun b o e => k2 b o ?_ (ne_of_none (s1 _ _ e) nx)) (s1.free nx) t2⟩⟩
    rw [upd_ne (ne_of_none (s1 _ _ e) nx), upd_ne (ne_of_none (s1 _ _ e) ndx)]
    exact s1 _ _ e


theorem b_iter (T : Tx K mg A) : L2.Binds K A.d_t___iter__ ["self"] [] := T.F_t___iter__.binds fun _ _ _ _ _ _ us hl => match us, hl with | [_], _ => rfl
theorem b_par (T : Tx K mg A) : L2.Binds K A.d_t_parent ["self", "place"] [] := T.F_t_parent.binds fun _ _ _ _ _ _ us hl => match us, hl with | [_, _], _ => rfl
theorem b_way (T : Tx K mg A) : L2.Binds K A.d_t_way_to ["self", "place"] [] := T.F_t_way_to.binds fun _ _ _ _ _ _ us hl => match us, hl with | [_, _], _ => rfl
theorem b_sub (T : Tx K mg A) : L2.Binds K A.d_t_subtree ["self", "place"] [] := T.F_t_subtree.binds fun _ _ _ _ _ _ us hl => match us, hl with | [_, _], _ => rfl

theorem pl_len (n : Nat) : (pl n).length = n := by unfold pl; rw [List.length_map, List.length_range]
theorem ok_iter (T : Tx K mg A) : FnIt P w K mg base 2 A.f_t___iter__ A.d_t___iter__ ["self"] (spIter K A.C "_places") := by
  refine fnIt_of T.F_t___iter__ sc_t___iter__ (fun cdv B outer s H vs Q hr h => ?_)
  obtain ⟨a, dx, fs, t, zs, rfl, ha, hf, ht, q⟩ := h
  refine ⟨_, pss_one (ps_ret (pe_callB call_iterT (by rfl) T.g_iter (by decide +kernel) (pa_cons (pe_fld (pv 0) rfl) pa_nil))), ?_⟩
  exact ⟨_, rfl, a, A.C, dx, _, _, rfl, ha, T.cT, T.nPl, hf, t, zs, rfl, ht, q⟩
end

end Tw

set_option Elab.async false
set_option linter.all false
set_option maxRecDepth 100000
set_option maxHeartbeats 2000000
namespace Tw
open PySem PySem.Spec PyProof.Rows L2
section
variable {P : Program} {w : World} {K : PySem.W.Frag} {mg : Str → Option Value} {base : Heap} {A : Ad}

/-! ways -/
def upF : Nat → Nat → Nat → List Nat
  | 0, _, p => [p]
  | k + 1, w, p => if p = 0 then [0] else p :: upF k w ((p - 1) / w)
def upL (w p : Nat) : List Nat := upF 13 w p
def wayL (w p : Nat) : List Nat := (upL w p).reverse
def vi (l : List Nat) : List V := l.map fun i => V.int (i : Nat)
theorem up_eq : ∀ w, w < 5 → ∀ p, p < 13 → 1 ≤ w → upL w p = if p = 0 then [0] else p :: upL w ((p - 1) / w) := by decide +kernel
theorem up_len : ∀ w, w < 5 → ∀ p, p < 13 → 1 ≤ w → (upL w p).length ≤ 13 := by decide +kernel
theorem vi_len (l : List Nat) : (vi l).length = l.length := by unfold vi; rw [List.length_map]
theorem vi_app (a b : List Nat) : vi (a ++ b) = vi a ++ vi b := by unfold vi; rw [List.map_append]
theorem vi_rev (a : List Nat) : (vi a).reverse = vi a.reverse := by unfold vi; rw [List.map_reverse]
/-- the parent as the program says it -/
def parV (w p : Nat) : V := if p = 0 then .non else .int ((p - 1) / w : Nat)
def spPar (C : Addr) : Sp := fun vs H Q _ => ∃ (p n w i : Nat), vs = [.ref p, .int i] ∧ TreeAt C H p n w ∧ i < n ∧ Q (parV w i) H
theorem ok_par (T : Tx K mg A) : FnOk P w K mg base CX0 4 A.f_t_parent A.d_t_parent ["self", "place"] (spPar A.C) := by
  refine T.F_t_parent.ok sc_t_parent (fun vs H Q E h => ?_) (fun cdv B outer s H vs Q E hr h => ?_)
  · obtain ⟨p, n, w, i, rfl, _⟩ := h
    rfl
  · obtain ⟨p, n, w, i, rfl, t, hi, q⟩ := h
    obtain ⟨dx, l, h1, h2⟩ := t.ob
    refine ⟨_, pss_cons (ps_expr (pe_call (ok_cp T) hr (by rfl) T.m_check_place T.F_check_place.kp (b_cp T) .nil pass0 (pa_cons (pv 1) (pa_cons (pe_fld (pv 0) rfl) pa_nil))))
      (pss_cons (ps_if (pt_cmpR op_eq (pv 1) pe_int (nomark _)) (pss_one (ps_ret pe_non)) pss_nil)
      (pss_one (ps_ret (pe_op op_fdivN (pe_op op_sub (pv 1) pe_int) (pe_fld (pv 0) rfl))))), ?_⟩
    refine ⟨_, rfl, _, rfl, p, A.C, dx, _, _, rfl, h1, T.cT, T.nMany, tf_many _ _ _, _, _, rfl, ⟨by omega, by omega⟩, ?_⟩
    refine ⟨_, rfl, rfl, _, rfl, ?_⟩
    by_cases h0 : i = 0
    · rw [decide_eq_true (show V.int (i : Nat) = V.int 0 by rw [h0]; rfl)]
      refine iteT ?_
      unfold parV at q
      rw [if_pos h0] at q
      exact q
    · rw [decide_eq_false (show ¬ V.int (i : Nat) = V.int 0 by intro z; injection z with z; omega)]
      refine iteF ?_
      refine ⟨_, rfl, _, _, rfl, rfl, _, rfl, p, A.C, dx, _, _, rfl, h1, T.cT, T.nArms, tf_arms _ _ _, _, _, rfl, rfl, ⟨by have := t.hw; omega, by have := t.hw; omega⟩, ?_⟩
      unfold parV at q
      rw [if_neg h0] at q
      have e : Int.fdiv ((i : Int) - 1) (w : Int) = ((i - 1) / w : Nat) := by
        rw [Int.fdiv_eq_ediv_of_nonneg _ (by omega), show ((i : Int) - 1) = ((i - 1 : Nat) : Int) by omega]
        rfl
      show Q (V.int (Int.fdiv ((i : Int) - 1) (w : Int))) H
      rw [e]
      exact q
/-- a number that falls while a place goes up -/
def muV : Option (Option V) → Nat
  | some (some (V.int z)) => z.toNat + 1
  | _ => 0
def spWay (C : Addr) : Sp := fun vs H Q _ => ∃ (p n w i : Nat), vs = [.ref p, .int i] ∧ TreeAt C H p n w ∧ i < n ∧ ∀ H' q, Same H H' → H q = none → H' q = some (.tup (vi (wayL w i))) → Q (.ref q) H'
theorem ok_way (T : Tx K mg A) : FnOk P w K mg base CX0 5 A.f_t_way_to A.d_t_way_to ["self", "place"] (spWay A.C) := by
  refine T.F_t_way_to.ok sc_t_way_to (fun vs H Q E h => ?_) (fun cdv B outer s H vs Q E hr h => ?_)
  · obtain ⟨p, n, w, i, rfl, _⟩ := h
    rfl
  · obtain ⟨p, n, w, i, rfl, t, hi, q⟩ := h
    refine ⟨_, pss_cons (ps_set (i := 2) sc_t_way_to.nd rfl (Or.inl rfl) (pe_lst (pa_cons (pv 1) pa_nil)))
      (pss_cons (ps_set (i := 3) sc_t_way_to.nd rfl (Or.inl rfl) (pe_meth (pv 0) T.cT T.M_t_parent (ok_par T) hr (b_par T) .nil pass0 (pa_cons (pv 1) pa_nil)))
      (pss_cons (ps_while PassesOwn.never (pt_cmpR op_notN (pv 3) pe_non (nomark _))
        (pss_cons (ps_expr (pe_bm PySem.F.plainAttrs_list PySem.F.slot_list_append PySem.F.type_list_append mt_append (pv 2) (pa_cons (pv 3) pa_nil)))
        (pss_one (ps_set (i := 3) sc_t_way_to.nd rfl (Or.inl rfl) (pe_meth (pv 0) T.cT T.M_t_parent (ok_par T) hr (b_par T) .nil pass0 (pa_cons (pv 3) pa_nil))))))
      (pss_one (ps_ret (pe_callTy call_tuple_of (by rfl) T.g_tuple (by decide +kernel) (pa_cons (pe_revL (pv 2)) pa_nil)))))), ?_⟩
    obtain ⟨dx, l, h1, h2⟩ := t.ob
    have noP : (tf n w l).lookup ("parent" : Str) = none := tf_no _ _ _ (by decide +kernel) (by decide +kernel) (by decide +kernel)
    refine ⟨_, rfl, by show 1 ≤ sizeLine; decide, fun d hd => ?_⟩
    have s1 : Same H (upd H d (.lst [V.int (i : Nat)])) := Same.up hd
    refine ⟨_, rfl, p, dx, _, rfl, s1 _ _ h1, noP, _, rfl, p, n, w, i, rfl, t.same s1, hi, ?_⟩
    refine while_by (fun σ H' => ∃ (c : Nat) (acc : List Nat), σ = [some (.ref p), some (.int i), some (.ref d), some (parV w c)] ∧ c < n ∧ Acc H d (vi (acc ++ [c])) H' ∧ acc ++ upL w c = upL w i ∧ acc.length ≤ 12)
      (fun σ _ => muV σ[3]?) ⟨i, [], rfl, hi, ⟨s1, hd, upd_same⟩, rfl, Nat.zero_le _⟩ ?_ ?_
    · rintro σ H' ⟨c, acc, rfl, hc, ac, ea, hl⟩
      have hn := t.hn
      have hw := t.hw
      have eu := up_eq w (by omega) c (by omega) hw.1
      refine ⟨_, rfl, rfl, _, rfl, ?_⟩
      by_cases h0 : c = 0
      · have ev : parV w c = V.non := by unfold parV; rw [if_pos h0]
        rw [ev, decide_eq_true (rfl : V.non = V.non)]
        refine iteF ?_
        rw [if_pos h0] at eu
        refine ⟨_, rfl, d, _, rfl, SqL.of ac.a, fun r hr0 => ⟨r, _, rfl, .inl ⟨SqL.of upd_same, fun u hu => q _ u (ac.s.trans ((Same.up hr0).trans (Same.up hu))) (ac.s.free ((Same.up hr0).free hu)) ?_⟩⟩⟩
        unfold wayL
        rw [upd_same, vi_rev, ← ea, eu, h0]
      · have ev : parV w c = V.int ((c - 1) / w : Nat) := by unfold parV; rw [if_neg h0]
        rw [ev, decide_eq_false (show ¬ V.int ((c - 1) / w : Nat) = V.non from fun z => nomatch z)]
        refine iteT ?_
        rw [if_neg h0] at eu
        have hlt : (c - 1) / w < c := Nat.lt_of_le_of_lt (Nat.div_le_self _ _) (by omega)
        have hL : acc.length + 1 + (upL w ((c - 1) / w)).length = (upL w i).length := by
          rw [← ea, eu, List.length_append, List.length_cons]
          omega
        have hL2 := up_len w (by omega) i (by omega) hw.1
        have hL3 := up_eq w (by omega) ((c - 1) / w) (by omega) hw.1
        have hL4 : 1 ≤ (upL w ((c - 1) / w)).length := by
          rw [hL3]
          split
          · exact Nat.le_refl _
          · rw [List.length_cons]; omega
        refine ⟨_, rfl, .inl ⟨rfl, _, SqL.of ac.a⟩, _, rfl, d, _, _, rfl, rfl, ac.a, small1000 (by rw [vi_len, List.length_append, List.length_singleton]; omega), ?_⟩
        have e2 : vi (acc ++ [c]) ++ [V.int ((c - 1) / w : Nat)] = vi (acc ++ [c] ++ [(c - 1) / w]) := by rw [vi_app (acc ++ [c])]; rfl
        rw [e2]
        have ac2 : Acc H d (vi (acc ++ [c] ++ [(c - 1) / w])) (upd H' d (.lst (vi (acc ++ [c] ++ [(c - 1) / w])))) := ac.push
        refine ⟨_, rfl, p, dx, _, rfl, ac2.s _ _ h1, noP, _, rfl, p, n, w, (c - 1) / w, rfl, t.same ac2.s, by omega, ?_⟩
        refine ⟨⟨(c - 1) / w, acc ++ [c], rfl, by omega, ac2, ?_, by rw [List.length_append, List.length_singleton]; omega⟩, ?_⟩
        · rw [← ea, eu, List.append_assoc]
          rfl
        · show muV (some (some (parV w ((c - 1) / w)))) < muV (some (some (V.int ((c - 1) / w : Nat))))
          unfold parV
          split
          · show 0 < _
            exact Nat.succ_pos _
          · rename_i h9
            show (((((c - 1) / w - 1) / w : Nat) : Int)).toNat + 1 < ((((c - 1) / w : Nat) : Int)).toNat + 1
            rw [Int.toNat_natCast, Int.toNat_natCast]
            exact Nat.succ_lt_succ (Nat.lt_of_le_of_lt (Nat.div_le_self _ _) (Nat.sub_lt (Nat.pos_of_ne_zero h9) Nat.one_pos))
    · rintro σ' H1 Q1 Q2 mono ⟨v, hv, e1, b1, e2, z⟩
      exact ⟨v, hv, e1, b1, e2, mono _ _ z⟩


/-- the places of a subtree -/
def subL (n w i : Nat) : List Nat := (List.range n).filter fun j => decide (i ∈ wayL w j)
theorem mem_vi (i : Nat) (l : List Nat) : inV (V.int (i : Nat)) (vi l) = decide (i ∈ l) := by
  have key : ∀ j : Nat, eqV (V.int (j : Nat)) (V.int (i : Nat)) = decide (j = i) := fun j => by
    show ((j : Int) == (i : Int)) = decide (j = i)
    by_cases h : j = i
    · rw [h, decide_eq_true rfl, beq_self_eq_true]
    · rw [decide_eq_false h]
      exact beq_eq_false_iff_ne.mpr (by omega)
  unfold inV vi
  induction l with
  | nil => rfl
  | cons a l ih =>
    rw [List.map_cons, List.any_cons, ih, key]
    by_cases h : a = i
    · simp [h]
    · simp [h, Ne.symm h]
theorem vi_flat (l : List Nat) : (vi l).all flatV = true := by
  unfold vi
  rw [List.all_map]
  exact List.all_eq_true.mpr fun _ _ => rfl
theorem sub_pick (n w i : Nat) : vi (subL n w i) = (List.range n).filterMap fun j => if i ∈ wayL w j then some (V.int (j : Nat)) else none := by
  unfold vi subL
  induction List.range n with
  | nil => rfl
  | cons a l ih =>
    by_cases h : i ∈ wayL w a
    · rw [List.filter_cons_of_pos (by simp [h]), List.map_cons, ih, List.filterMap_cons, if_pos h]
    · rw [List.filter_cons_of_neg (by simp [h]), ih, List.filterMap_cons, if_neg h]
def spSub (C : Addr) : Sp := fun vs H Q _ => ∃ (p n w i : Nat), vs = [.ref p, .int i] ∧ TreeAt C H p n w ∧ i < n ∧ ∀ H' q, Same H H' → H q = none → H' q = some (.tup (vi (subL n w i))) → Q (.ref q) H'
theorem ok_sub (T : Tx K mg A) : FnOk P w K mg base CX0 6 A.f_t_subtree A.d_t_subtree ["self", "place"] (spSub A.C) := by
  refine T.F_t_subtree.ok sc_t_subtree (fun vs H Q E h => ?_) (fun cdv B outer s H vs Q E hr h => ?_)
  · obtain ⟨p, n, w, i, rfl, _⟩ := h
    rfl
  · obtain ⟨p, n, w, i, rfl, t, hi, q⟩ := h
    obtain ⟨dx, l, h1, h2⟩ := t.ob
    have noW : (tf n w l).lookup ("way_to" : Str) = none := tf_no _ _ _ (by decide +kernel) (by decide +kernel) (by decide +kernel)
    refine ⟨_, pss_cons (ps_expr (pe_call (ok_cp T) (hr.mono (by decide)) (by rfl) T.m_check_place T.F_check_place.kp (b_cp T) .nil pass0 (pa_cons (pv 1) (pa_cons (pe_fld (pv 0) rfl) pa_nil))))
      (pss_one (ps_ret (pe_callTy call_tuple_of (by rfl) T.g_tuple (by decide +kernel) (pa_cons
        (pe_lc (own := [("below", 2)]) (g := gName 2) rfl sc_t_subtree.nd (pi_tup (pe_fld (pv 0) rfl)) (blkOk_by (own := [("below", 2)]) (N := ["self", "place", "below"]) (sc := defScope s_t_subtree) (by decide +kernel)) (fun _ _ _ _ _ => pg_name (i := 2) sc_t_subtree.nd rfl (Or.inl rfl))
          (fun _ _ _ _ _ => pts_one (pt_cmpR (r := L2.rIn K false) op_in_seq (pv 1) (pe_meth (pv 0) T.cT T.M_t_way_to (ok_way T) hr (b_way T) .nil pass0 (pa_cons (pv 2) pa_nil)) (by rfl))) (fun _ _ _ _ _ => pv 2)) pa_nil)))), ?_⟩
    refine ⟨_, rfl, _, rfl, p, A.C, dx, _, _, rfl, h1, T.cT, T.nMany, tf_many _ _ _, _, _, rfl, ⟨by omega, by omega⟩, ?_⟩
    refine ⟨_, rfl, p, A.C, dx, _, _, rfl, h1, T.cT, T.nPl, tf_pl _ _ _, l, rfl, ⟨_, SqT.of h2⟩, fun D hD => ?_⟩
    refine lc_it (walk_tup (xs := pl n)) (PickI H D (List.range n) fun j => if i ∈ wayL w j then some (V.int (j : Nat)) else none) (pick_start hD) (fun k H' _ h => SqT.of (h.s _ _ h2)) ?_ ?_
    · rintro k x H2 H3 hk pk ⟨rfl, ex⟩
      obtain ⟨hk', rfl⟩ := map_at ex
      rw [List.getElem_range]
      rw [List.length_range] at hk'
      refine ⟨rfl, _, rfl, _, rfl, p, dx, _, rfl, pk.s _ _ h1, noW, _, rfl, p, n, w, k, rfl, t.same pk.s, hk', fun H4 r s4 r0 hr4 => ?_⟩
      refine ⟨r, _, rfl, .inr (SqT.of hr4), rfl, vi_flat _, _, rfl, ?_⟩
      show if (inV (V.int (i : Nat)) (vi (wayL w k))) = true then _ else _
      rw [mem_vi]
      by_cases hm : i ∈ wayL w k
      · rw [decide_eq_true hm]
        exact iteT ⟨_, rfl, pick_yes (by rw [List.length_range]; exact hk') (by rw [List.length_range]; have := t.hn; omega) (by rw [List.getElem_range, if_pos hm]) s4 pk⟩
      · rw [decide_eq_false hm]
        exact iteF (pick_no (by rw [List.length_range]; exact hk') (by rw [List.getElem_range, if_neg hm]) s4 pk)
    · intro H2 pk
      have ac := pick_end (by rw [pl_len, List.length_range]) pk
      refine ⟨D, _, rfl, .inl ⟨SqL.of ac.a, fun r hr0 => q _ r (ac.s.trans (Same.up hr0)) (ac.s.free hr0) ?_⟩⟩
      rw [upd_same, ← sub_pick]

theorem self_sub : ∀ w, w < 5 → ∀ i, i < 13 → 1 ≤ w → i ∈ wayL w i := by decide +kernel
end

end Tw

set_option Elab.async false
set_option linter.all false
set_option maxRecDepth 100000
set_option maxHeartbeats 2000000
namespace Tw
open PySem PySem.Spec PyProof.Rows L2
section
variable {P : Program} {w : World} {K : PySem.W.Frag} {mg : Str → Option Value} {base : Heap} {A : Ad}

/-! the law's own defs -/
theorem ints_dp (K : PySem.W.Frag) (H : Hp) : ∀ ns : List Int, DpAll K H (ns.map V.int) (ns.map PyData.int)
  | [] => .nil
  | n :: ns => .cons (.int n) (ints_dp K H ns)
theorem emp_eqv : ∀ ns : List Int, PyData.eqv (.list (ns.map PyData.int)) (.list []) = decide (ns = [])
  | [] => by rfl
  | n :: ns => by rfl
theorem shaped_ints (ns : List Int) : SeqAt.shaped (.list (ns.map PyData.int)) = true := by
  have h1 : ∀ ms : List Int, PyData.canLayAll0 (ms.map PyData.int) = true := fun ms => by
    induction ms with
    | nil => rfl
    | cons m ms ih => rw [List.map_cons, PyData.canLayAll0, ih]; rfl
  have h2 : ∀ ms : List Int, PyData.depthAll (ms.map PyData.int) ≤ 1 := fun ms => by
    induction ms with
    | nil => simp [PyData.depthAll]
    | cons m ms ih =>
      simp only [List.map_cons, PyData.depthAll, PyData.depth]
      omega
  have h3 : PyData.depth (.list (ns.map PyData.int)) ≤ 64 := by
    have := h2 ns
    simp only [PyData.depth]
    omega
  unfold SeqAt.shaped
  rw [decide_eq_true h3, Bool.and_true]
  simp only [PyData.canLay0]
  exact h1 ns
theorem cut63 (xs : List V) (h : xs.length ≤ 63) : cutV xs none (some 63) = xs := by
  unfold cutV
  rw [HT.sIx_none, show (63 : Int) = ((63 : Nat) : Int) from rfl, HT.sIx_nat, List.drop_zero, Nat.min_eq_right h, Nat.sub_zero, List.take_length]
def spNum (K : PySem.W.Frag) : Sp := fun vs H Q _ => ∃ (a : Addr) (ns : List Int) (i : Nat), vs = [.ref a, .int i] ∧ SqL K H a (ns.map V.int) ∧ ns.length ≤ 63 ∧ i < 1000000 ∧ ∀ H' r, Same H H' → Q (.int r) H'
theorem ok_num (T : Tx K mg A) : FnOk P w K mg base CX0 2 A.f__law_number A.d__law_number ["script", "index"] (spNum K) := by
  refine T.F__law_number.ok sc__law_number (fun vs H Q E h => ?_) (fun cdv B outer s H vs Q E hr h => ?_)
  · obtain ⟨a, ns, i, rfl, _⟩ := h
    rfl
  · obtain ⟨a, ns, i, rfl, ha, hl, hi, q⟩ := h
    have nd := sc__law_number.nd
    have hu := hr.units
    refine ⟨_, C8.pss_cut (ps_set (i := 2) nd rfl (Or.inl rfl) (pe_ifExp (pt_cmpR (op_neD hu) (pv 0) (pe_lst pa_nil) (nomark _)) (pe_slice sl_list (pv 0) po_none (po_some pe_int)) (pe_lst (pa_cons pe_int pa_nil))))
      (pss_cons (ps_set (i := 3) nd rfl (Or.inl rfl) (pe_op op_add
        (pe_ix ix_list (pv 2) (pe_op op_mod (pe_callTy call_int1 (by rfl) T.g_int (by decide +kernel) (pa_cons (pv 1) pa_nil)) (pe_callB call_len_seq (by rfl) T.g_len PySem.boot_len (pa_cons (pv 2) pa_nil))) (fun _ _ => rfl))
        (pe_op op_mul pe_int (pe_op op_fdivN (pv 1) (pe_callB call_len_seq (by rfl) T.g_len PySem.boot_len (pa_cons (pv 2) pa_nil))))))
      (pss_cons (ps_par (i := 4) (j := 5) rfl nd rfl rfl (by decide) rfl rfl (pa_cons (pe_op op_mod (pe_callTy call_int1 (by rfl) T.g_int (by decide +kernel) (pa_cons (pv 3) pa_nil)) pe_int)
          (pa_cons (pe_op op_mod (pe_callTy call_int1 (by rfl) T.g_int (by decide +kernel) (pa_cons (pe_op op_fdivN (pv 3) pe_int) pa_nil)) pe_int) pa_nil)) rfl)
      (pss_cons (ps_set (i := 6) nd rfl (Or.inl rfl) (pe_op op_mod (pe_callTy call_int1 (by rfl) T.g_int (by decide +kernel) (pa_cons (pe_callB (cr_sum rfl) (by rfl) T.g_sum (by decide +kernel) (pa_cons (pv 2) pa_nil)) pa_nil)) pe_int))
      (pss_cons (ps_set (i := 7) nd rfl (Or.inl rfl) (pe_op op_mod (pe_callTy call_int1 (by rfl) T.g_int (by decide +kernel) (pa_cons
          (pe_op op_add (pe_op op_add (pe_op op_mul (pe_op op_add (pv 4) (pe_op op_mul pe_int (pv 1))) pe_int) (pe_op op_mul pe_int (pv 5))) (pv 6)) pa_nil)) pe_int))
      (pss_one (ps_ret (pe_op op_add (pe_op op_mul (pe_op op_mod (pe_callTy call_int1 (by rfl) T.g_int (by decide +kernel) (pa_cons
          (pe_op op_mul (pv 7) (pe_op op_add (pe_op op_add (pv 7) (pe_op op_mul pe_int (pv 1))) pe_int)) pa_nil)) pe_int) pe_int) (pv 5)))))))), ?_⟩
    refine ⟨fun σ H1 => ∃ (c : Addr) (cs : List Int), σ = [some (.ref a), some (.int i), some (.ref c), none, none, none, none, none] ∧ Same H H1 ∧ H1 c = some (.lst (cs.map V.int)) ∧ 0 < cs.length ∧ cs.length ≤ 63, ?_, ?_⟩
    · refine ⟨_, rfl, Nat.zero_le _, fun l0 hl0 => ?_⟩
      have hs0 : Same H (upd H l0 (.lst [])) := Same.up hl0
      refine ⟨.list (ns.map PyData.int), .list [], .lst (hs0.seq ha) (ints_dp _ _ _), .lst (SqL.of upd_same) .nil, ?_, rfl, _, rfl, ?_⟩
      · exact shaped_ints _
      · rw [emp_eqv]
        by_cases e : ns = []
        · rw [decide_eq_true e]
          refine iteF ⟨by show 1 ≤ sizeLine; decide, fun l1 hl1 => ⟨l1, [5], rfl, hs0.trans (Same.up hl1), upd_same, by decide, by decide⟩⟩
        · rw [decide_eq_false e]
          refine iteT ⟨_, rfl, _, rfl, a, _, rfl, hs0.seq ha, fun l1 hl1 => ⟨l1, ns, rfl, hs0.trans (Same.up hl1), ?_, ?_, hl⟩⟩
          · rw [upd_same]
            exact congrArg (fun z => some (HO.lst z)) (cut63 _ (by rw [List.length_map]; exact hl))
          · exact List.length_pos_iff.mpr e
    · rintro σ H1 ⟨c, cs, rfl, s1, hc, h0, h63⟩
      have hq := SqL.of (K := K) hc
      have hL : ((cs.map V.int).length : Int) = (cs.length : Int) := by rw [List.length_map]
      have hm0 : 0 ≤ (i : Int) % (cs.length : Int) := Int.emod_nonneg _ (by omega)
      have hm1 : (i : Int) % (cs.length : Int) < (cs.length : Int) := Int.emod_lt_of_pos _ (by omega)
      obtain ⟨j, hj⟩ : ∃ j : Nat, (i : Int) % (cs.length : Int) = (j : Int) := ⟨_, (Int.toNat_of_nonneg hm0).symm⟩
      have hjl : j < cs.length := by omega
      have hat : atI (cs.map V.int) ((i : Int) % ((cs.map V.int).length : Int)) = some (V.int cs[j]) := by
        rw [hL, hj]
        exact atI_nat (by rw [List.getElem?_map, List.getElem?_eq_getElem hjl]; rfl)
      refine ⟨_, rfl, _, rfl, .inl ⟨_, rfl, _, rfl, c, _, rfl, .inl hq, _, _, rfl, rfl, ?_, c, _, _, _, rfl, rfl, hq, hat, _, rfl, _, rfl, c, _, rfl, .inl hq, _, _, rfl, rfl, ⟨?_, ?_⟩, _, _, rfl, rfl, .inl ⟨by decide, by decide⟩, _, _, rfl, rfl, ?_⟩⟩
      · show (0 : Int) < ((cs.map V.int).length : Int)
        omega
      · omega
      · omega
      · refine ⟨_, rfl, .inl ⟨_, rfl, _, _, rfl, rfl, by show (0 : Int) < 1000003; decide, ?_⟩⟩
        refine ⟨_, rfl, _, _, rfl, rfl, ⟨by decide, by decide⟩, .inl ⟨_, rfl, _, _, rfl, rfl, by show (0 : Int) < 999983; decide, _, _, rfl, ?_⟩⟩
        refine ⟨_, rfl, c, cs, rfl, hq, .inl ⟨_, rfl, _, _, rfl, rfl, by show (0 : Int) < 65521; decide, ?_⟩⟩
        refine ⟨_, rfl, _, rfl, _, _, rfl, rfl, .inl ⟨by decide, by decide⟩, _, _, rfl, rfl, _, _, rfl, rfl, .inr ⟨by decide, by decide⟩, ?_⟩
        refine ⟨_, rfl, _, _, rfl, rfl, .inl ⟨by decide, by decide⟩, _, _, rfl, rfl, _, rfl, _, _, rfl, rfl, .inl ⟨_, rfl, _, _, rfl, rfl, by show (0 : Int) < 2147483647; decide, ?_⟩⟩
        refine ⟨_, rfl, _, rfl, _, rfl, _, _, rfl, rfl, .inl ⟨by decide, by decide⟩, _, _, rfl, rfl, _, _, rfl, rfl, _, _, rfl, rfl, .inl ⟨?_, ?_⟩, .inl ⟨_, rfl, _, _, rfl, rfl, by show (0 : Int) < 2147483629; decide, ?_⟩⟩
        · have := Int.emod_nonneg ((((cs[j] + 13 * Int.fdiv (i : Int) ((cs.map V.int).length : Int)) % 1000003 + 977 * (i : Int)) * 48271 + 31 * (Int.fdiv (cs[j] + 13 * Int.fdiv (i : Int) ((cs.map V.int).length : Int)) 1000003 % 999983)) + cs.sum % 65521) (show (2147483647 : Int) ≠ 0 by decide)
          omega
        · have := Int.emod_lt_of_pos ((((cs[j] + 13 * Int.fdiv (i : Int) ((cs.map V.int).length : Int)) % 1000003 + 977 * (i : Int)) * 48271 + 31 * (Int.fdiv (cs[j] + 13 * Int.fdiv (i : Int) ((cs.map V.int).length : Int)) 1000003 % 999983)) + cs.sum % 65521) (show (0 : Int) < 2147483647 by decide)
          omega
        · exact ⟨_, _, rfl, rfl, .inr ⟨by decide, by decide⟩, _, rfl, _, _, rfl, rfl, q _ _ s1⟩
theorem b_num (T : Tx K mg A) : L2.Binds K A.d__law_number ["script", "index"] [] := T.F__law_number.binds fun _ _ _ _ _ _ us hl => match us, hl with | [_, _], _ => rfl

/-- what stood, but for what stands at d -/
def But (d : Addr) (H H' : Hp) : Prop := ∀ b o, b ≠ d → H b = some o → H' b = some o
theorem But.of {d : Addr} {H H' : Hp} (s : Same H H') : But d H H' := fun b o _ e => s b o e
theorem But.trans {d : Addr} {H H1 H2 : Hp} (a : But d H H1) (b : But d H1 H2) : But d H H2 := fun c o n e => b c o n (a c o n e)
theorem But.put {d : Addr} {o : HO} {H : Hp} : But d H (upd H d o) := fun b u n e => by rw [upd_ne n]; exact e
theorem But.seq {d a : Addr} {H H' : Hp} {xs : List V} (s : But d H H') (h : SqL K H a xs) (n : a ≠ d ∨ ∀ H', SqL K H' a xs) : SqL K H' a xs := by
  rcases n with n | n
  rotate_left
  · exact n _
  rcases h with (h | ⟨o, h⟩) | h
  · exact .inl (.inl (s _ _ n h))
  · exact .inl (.inr ⟨o, s _ _ n h⟩)
  · exact .inr h
/-- the draws: a list of the script and of a number -/
structure DrAt (K : PySem.W.Frag) (H : Hp) (d a : Addr) (ns : List Int) (k : Nat) : Prop where
  l : H d = some (.lst [.ref a, .int k])
  n : a ≠ d ∨ ∀ H', SqL K H' a (ns.map V.int)
  s : SqL K H a (ns.map V.int)
  h : ns.length ≤ 63
theorem DrAt.start {K : PySem.W.Frag} {H : Hp} {d a : Addr} {ns : List Int} (ha : SqL K H a (ns.map V.int)) (hl : ns.length ≤ 63) (hd : H d = none) : DrAt K (upd H d (.lst [.ref a, .int 0])) d a ns 0 := by
  refine ⟨upd_same, ?_, (Same.up hd).seq ha, hl⟩
  rcases ha with (h | ⟨o, h⟩) | h
  · exact .inl (ne_of_none h hd)
  · exact .inl (ne_of_none h hd)
  · exact .inr fun H' => .inr h
theorem DrAt.same {K : PySem.W.Frag} {H H' : Hp} {d a : Addr} {ns : List Int} {k : Nat} (h : DrAt K H d a ns k) (s : Same H H') : DrAt K H' d a ns k := ⟨s _ _ h.l, h.n, s.seq h.s, h.h⟩
def spTake (K : PySem.W.Frag) : Sp := fun vs H Q _ => ∃ (d a : Addr) (ns : List Int) (k m : Nat), vs = [.ref d, .int m] ∧ DrAt K H d a ns k ∧ k < 100000 ∧ 0 < m ∧
  ∀ (H' : Hp) (r : Nat), But d H H' → DrAt K H' d a ns (k + 1) → r < m → Q (.int r) H'
theorem ok_take (T : Tx K mg A) : FnOk P w K mg base CX0 3 A.f__law_take A.d__law_take ["draw", "many"] (spTake K) := by
  refine T.F__law_take.ok sc__law_take (fun vs H Q E h => ?_) (fun cdv B outer s H vs Q E hr h => ?_)
  · obtain ⟨d, a, ns, k, m, rfl, _⟩ := h
    rfl
  · obtain ⟨d, a, ns, k, m, rfl, ⟨hl, hn, hs, h63⟩, hk, hm, q⟩ := h
    refine ⟨_, pss_cons (ps_asg (pe_op op_add (pe_ix ix_list (pv 0) pe_int (fun _ _ => rfl)) pe_int) (pg_sub (pv 0) pe_int set_list))
      (pss_one (ps_ret (pe_op op_mod (pe_callTy call_int1 (by rfl) T.g_int (by decide +kernel) (pa_cons
        (pe_call (ok_num T) hr (by rfl) T.m__law_number T.F__law_number.kp (b_num T) .nil pass0 (pa_cons (pe_ix ix_list (pv 0) pe_int (fun _ _ => rfl))
          (pa_cons (pe_callTy call_int1 (by rfl) T.g_int (by decide +kernel) (pa_cons (pe_ix ix_list (pv 0) pe_int (fun _ _ => rfl)) pa_nil)) pa_nil))) pa_nil)) (pv 1)))), ?_⟩
    have at1 : atI [V.ref a, V.int (k : Nat)] 1 = some (V.int (k : Nat)) := rfl
    refine ⟨_, rfl, d, _, _, _, rfl, rfl, SqL.of hl, at1, _, _, rfl, rfl, _, rfl, d, _, _, 1, rfl, rfl, hl, rfl, ?_⟩
    have e1 : upd H d (.lst (([V.ref a, V.int (k : Nat)]).set 1 (V.int ((k : Int) + 1)))) d = some (.lst [V.ref a, V.int ((k + 1 : Nat) : Int)]) := by
      rw [upd_same]
      rfl
    have b1 : But d H (upd H d (.lst (([V.ref a, V.int (k : Nat)]).set 1 (V.int ((k : Int) + 1))))) := But.put
    have s1 := b1.seq hs hn
    refine ⟨_, rfl, d, _, _, _, rfl, rfl, SqL.of e1, rfl, _, rfl, d, _, _, _, rfl, rfl, SqL.of e1, rfl, .inl ⟨_, rfl, a, ns, k + 1, rfl, s1, h63, by omega, fun H2 r s2 => ?_⟩⟩
    refine .inl ⟨_, rfl, _, rfl, _, _, rfl, rfl, by show (0 : Int) < (m : Nat); omega, ?_⟩
    have m0 := Int.emod_nonneg r (show ((m : Nat) : Int) ≠ 0 by omega)
    have m1 := Int.emod_lt_of_pos r (show (0 : Int) < (m : Nat) by omega)
    obtain ⟨z, hz⟩ : ∃ z : Nat, r % (m : Nat) = (z : Int) := ⟨_, (Int.toNat_of_nonneg m0).symm⟩
    have h := q H2 z (b1.trans (But.of s2)) ⟨s2 _ _ e1, hn, s2.seq s1, h63⟩ (by omega)
    rw [← hz] at h
    exact h
theorem b_take (T : Tx K mg A) : L2.Binds K A.d__law_take ["draw", "many"] [] := T.F__law_take.binds fun _ _ _ _ _ _ us hl => match us, hl with | [_, _], _ => rfl

/-! ways, children, subtrees by the law -/
def dl (l : List Nat) : List PyData := l.map fun i => PyData.int (i : Nat)
theorem dl_ints (l : List Nat) : dl l = (l.map fun i => ((i : Nat) : Int)).map PyData.int := by unfold dl; rw [List.map_map]; rfl
theorem vi_ints (l : List Nat) : vi l = (l.map fun i => ((i : Nat) : Int)).map V.int := by unfold vi; rw [List.map_map]; rfl
theorem vi_dp (K : PySem.W.Frag) (H : Hp) (l : List Nat) : DpAll K H (vi l) (dl l) := by
  rw [vi_ints, dl_ints]
  exact ints_dp _ _ _
theorem dl_shaped (l : List Nat) : SeqAt.shaped (.tuple (dl l)) = true := by
  rw [dl_ints]
  exact shaped_ints _
theorem dl_shapedL (l : List Nat) : SeqAt.shaped (.list (dl l)) = true := by
  rw [dl_ints]
  exact shaped_ints _
theorem refl_of {d : PyData} (h : SeqAt.shaped d = true) : PyData.eqv d d = true := PySem.SeqAt.eqv_refl d (SeqAt.canLay_of_shaped h)
def spLPar : Sp := fun vs H Q _ => ∃ (w i : Nat), vs = [.int w, .int i] ∧ (1 ≤ w ∧ w ≤ 4) ∧ 1 ≤ i ∧ Q (.int ((i - 1) / w : Nat)) H
theorem ok_lpar (T : Tx K mg A) : FnOk P w K mg base CX0 2 A.f__law_parent A.d__law_parent ["wide", "place"] spLPar := by
  refine T.F__law_parent.ok sc__law_parent (fun vs H Q E h => ?_) (fun cdv B outer s H vs Q E hr h => ?_)
  · obtain ⟨w, i, rfl, _⟩ := h
    rfl
  · obtain ⟨w, i, rfl, hw, hi, q⟩ := h
    refine ⟨_, pss_one (ps_ret (pe_op op_fdivN (pe_callTy call_int1 (by rfl) T.g_int (by decide +kernel) (pa_cons (pe_op op_sub (pv 1) pe_int) pa_nil)) (pv 0))), ?_⟩
    refine ⟨_, rfl, _, _, rfl, rfl, .inl ⟨_, rfl, _, rfl, _, _, rfl, rfl, ⟨by omega, by omega⟩, ?_⟩⟩
    have e : Int.fdiv ((i : Int) - 1) (w : Int) = ((i - 1) / w : Nat) := by
      rw [Int.fdiv_eq_ediv_of_nonneg _ (by omega), show ((i : Int) - 1) = ((i - 1 : Nat) : Int) by omega]
      rfl
    show Q (V.int (Int.fdiv ((i : Int) - 1) (w : Int))) H
    rw [e]
    exact q
theorem b_lpar (T : Tx K mg A) : L2.Binds K A.d__law_parent ["wide", "place"] [] := T.F__law_parent.binds fun _ _ _ _ _ _ us hl => match us, hl with | [_, _], _ => rfl
def spLWay : Sp := fun vs H Q _ => ∃ (w i : Nat), vs = [.int w, .int i] ∧ (1 ≤ w ∧ w ≤ 4) ∧ i ≤ 12 ∧ ∀ H' q, Same H H' → H q = none → H' q = some (.lst (vi (wayL w i))) → Q (.ref q) H'
theorem up_head : ∀ w, w < 5 → ∀ p, p < 13 → 1 ≤ w → upL w p = p :: (upL w p).tail := by decide +kernel
theorem way_len : ∀ w, w < 5 → ∀ p, p < 13 → 1 ≤ w → (wayL w p).length ≤ 13 := by decide +kernel
theorem ok_lway (T : Tx K mg A) : FnOk P w K mg base CX0 3 A.f__law_way A.d__law_way ["wide", "place"] spLWay := by
  refine T.F__law_way.ok sc__law_way (fun vs H Q E h => ?_) (fun cdv B outer s H vs Q E hr h => ?_)
  · obtain ⟨w, i, rfl, _⟩ := h
    rfl
  · obtain ⟨w, i, rfl, hw, hi, q⟩ := h
    have nd := sc__law_way.nd
    refine ⟨_, pss_cons (ps_set (i := 2) nd rfl (Or.inl rfl) (pe_lst (pa_cons (pv 1) pa_nil)))
      (pss_cons (ps_for PassesOwn.never rfl (pi_range1 rfl T.g_range (pa_cons pe_int pa_nil)) (pg_name (i := 3) nd rfl (Or.inl rfl))
        (pss_cons (ps_if (pt_cmpR op_eq (pe_ix ix_list (pv 2) pe_int (fun _ _ => rfl)) pe_int (nomark _)) (pss_one (ps_ret (pv 2))) pss_nil)
        (pss_one (ps_set (i := 2) nd rfl (Or.inl rfl) (pe_op op_cat (pe_lst (pa_cons (pe_call (ok_lpar T) hr (by rfl) T.m__law_parent T.F__law_parent.kp (b_lpar T) .nil pass0 (pa_cons (pv 0) (pa_cons (pe_ix ix_list (pv 2) pe_int (fun _ _ => rfl)) pa_nil))) pa_nil)) (pv 2))))))
      (pss_one (ps_ret (pv 2)))), ?_⟩
    refine ⟨_, rfl, by show 1 ≤ sizeLine; decide, fun d hd => ?_⟩
    refine ⟨20, rfl, by decide, by decide, for_range (n := 20) (fun k σ H' => ∃ (c : Nat) (L : List Nat) (a : Addr) (z : Option V), σ = [some (.int w), some (.int i), some (.ref a), z] ∧ Same H H' ∧ H a = none ∧ H' a = some (.lst (vi (c :: L))) ∧
      wayL w i = (upL w c).tail.reverse ++ (c :: L) ∧ c + k ≤ 12) ⟨i, [], d, none, rfl, Same.up hd, hd, upd_same, ?_, by omega⟩ ?_ ?_⟩
    · unfold wayL
      have h := up_head w (by omega) i (by omega) hw.1
      rw [h, List.reverse_cons]
      rfl
    · rintro k σ H' hk ⟨c, L, a, z, rfl, s1, a0, ha, eq, hc⟩
      have hat : atI (vi (c :: L)) 0 = some (V.int (c : Nat)) := atI_nat (j := 0) rfl
      refine ⟨_, rfl, a, _, _, _, rfl, rfl, SqL.of ha, hat, rfl, _, rfl, ?_⟩
      by_cases h0 : c = 0
      · rw [decide_eq_true (show V.int (c : Nat) = V.int 0 by rw [h0]; rfl)]
        refine iteT ⟨_, rfl, q _ a s1 a0 ?_⟩
        subst h0
        have e0 := up_eq w (by omega) 0 (by omega) hw.1
        rw [if_pos rfl] at e0
        rw [e0] at eq
        rw [ha, eq]
        rfl
      · rw [decide_eq_false (show ¬ V.int (c : Nat) = V.int 0 by intro z; injection z with z; omega)]
        refine iteF ?_
        have hlt : (c - 1) / w < c := Nat.lt_of_le_of_lt (Nat.div_le_self _ _) (by omega)
        have e1 := up_eq w (by omega) c (by omega) hw.1
        rw [if_neg h0] at e1
        have e2 := up_head w (by omega) ((c - 1) / w) (by omega) hw.1
        have hlen : (c :: L).length ≤ 13 := by
          have h3 := way_len w (by omega) i (by omega) hw.1
          rw [eq, List.length_append] at h3
          omega
        refine ⟨_, rfl, _, rfl, a, _, _, _, rfl, rfl, SqL.of ha, hat, w, c, rfl, hw, by omega, by show 1 ≤ sizeLine; decide, fun a2 ha2 => ?_⟩
        have s2 : Same H' (upd H' a2 (.lst [V.int ((c - 1) / w : Nat)])) := Same.up ha2
        refine ⟨_, rfl, a2, a, _, _, rfl, rfl, upd_same, s2 _ _ ha, ?_, fun a3 ha3 => ?_⟩
        · rw [vi_len]
          exact Nat.le_of_lt (small1000 (by rw [List.length_singleton]; omega))
        · refine ⟨(c - 1) / w, c :: L, a3, _, rfl, s1.trans (s2.trans (Same.up ha3)), (s1.trans s2).free ha3, upd_same, ?_, by omega⟩
          rw [eq, e1, List.tail_cons]
          conv => lhs; rw [e2]
          rw [List.reverse_cons, List.append_assoc]
          rfl
    · rintro σ H' ⟨c, L, a, z, rfl, s1, a0, ha, eq, hc⟩
      omega
theorem b_lway (T : Tx K mg A) : L2.Binds K A.d__law_way ["wide", "place"] [] := T.F__law_way.binds fun _ _ _ _ _ _ us hl => match us, hl with | [_, _], _ => rfl


def spLSub : Sp := fun vs H Q _ => ∃ (w n i : Nat), vs = [.int w, .int n, .int i] ∧ (1 ≤ w ∧ w ≤ 4) ∧ n ≤ 12 ∧ i < n ∧ ∀ H' q, Same H H' → H q = none → H' q = some (.lst (vi (subL n w i))) → Q (.ref q) H'
theorem ok_lsub (T : Tx K mg A) : FnOk P w K mg base CX0 4 A.f__law_subtree A.d__law_subtree ["wide", "many", "place"] spLSub := by
  refine T.F__law_subtree.ok sc__law_subtree (fun vs H Q E h => ?_) (fun cdv B outer s H vs Q E hr h => ?_)
  · obtain ⟨w, n, i, rfl, _⟩ := h
    rfl
  · obtain ⟨w, n, i, rfl, hw, hn, hi, q⟩ := h
    have nd := sc__law_subtree.nd
    refine ⟨_, pss_one (ps_ret (pe_lc (own := [("other", 3)]) (g := gName 3) rfl nd (pi_range1 rfl T.g_range (pa_cons (pv 1) pa_nil)) (blkOk_by (own := [("other", 3)]) (N := ["wide", "many", "place", "other"]) (sc := defScope s__law_subtree) (by decide +kernel))
      (fun _ _ _ _ _ => pg_name (i := 3) nd rfl (Or.inl rfl))
      (fun _ _ _ _ _ => pts_one (pt_cmpR (r := L2.rIn K false) op_in_seq (pv 2) (pe_call (ok_lway T) hr (by rfl) T.m__law_way T.F__law_way.kp (b_lway T) .nil pass0 (pa_cons (pv 0) (pa_cons (pv 3) pa_nil))) (by rfl))) (fun _ _ _ _ _ => pv 3))), ?_⟩
    refine ⟨_, rfl, _, rfl, by omega, by omega, fun D hD => ?_⟩
    rw [Int.toNat_natCast]
    refine lc_it (walk_range (lo := 0) (n := n)) (PickI H D (List.range n) fun j => if i ∈ wayL w j then some (V.int (j : Nat)) else none) (pick_start hD) (fun k H' _ h => trivial) ?_ ?_
    · rintro k x H2 H3 hk pk ⟨rfl, ex⟩
      have ex2 : x = V.int (k : Nat) := ex.trans (by show V.int (0 + (k : Int)) = _; rw [Int.zero_add])
      subst ex2
      have hk' : k < (List.range n).length := by rw [List.length_range]; exact hk
      refine ⟨rfl, _, rfl, _, rfl, _, rfl, w, k, rfl, hw, by omega, fun H4 r s4 r0 hr4 => ?_⟩
      refine ⟨r, _, rfl, .inl (SqL.of hr4), rfl, vi_flat _, _, rfl, ?_⟩
      show if (inV (V.int (i : Nat)) (vi (wayL w k))) = true then _ else _
      rw [mem_vi]
      by_cases hm : i ∈ wayL w k
      · rw [decide_eq_true hm]
        exact iteT ⟨_, rfl, pick_yes hk' (by rw [List.length_range]; omega) (by rw [List.getElem_range, if_pos hm]) s4 pk⟩
      · rw [decide_eq_false hm]
        exact iteF (pick_no hk' (by rw [List.getElem_range, if_neg hm]) s4 pk)
    · intro H2 pk
      have ac := pick_end (by rw [List.length_range]) pk
      refine q _ D ac.s hD ?_
      rw [ac.a, sub_pick]
theorem b_lsub (T : Tx K mg A) : L2.Binds K A.d__law_subtree ["wide", "many", "place"] [] := T.F__law_subtree.binds fun _ _ _ _ _ _ us hl => match us, hl with | [_, _, _], _ => rfl
def spKeys (K : PySem.W.Frag) : Sp := fun vs H Q _ => ∃ (d a : Addr) (ns : List Int) (k m s : Nat), vs = [.ref d, .int m, .int s] ∧ DrAt K H d a ns k ∧ k < 50000 ∧ m ≤ 12 ∧ 0 < s ∧
  ∀ (H' : Hp) (q : Addr) (ks : List Int) (k' : Nat), But d H H' → DrAt K H' d a ns k' → k' ≤ k + 14 → ks.length ≤ m → (∀ z ∈ ks, -((s : Int) / 2) ≤ z ∧ z < (s : Int) - (s : Int) / 2) → H q = none → H' q = some (.lst (ks.map V.int)) → Q (.ref q) H'
theorem ok_keys (T : Tx K mg A) : FnOk P w K mg base CX0 4 A.f__law_keys A.d__law_keys ["draw", "most", "span"] (spKeys K) := by
  refine T.F__law_keys.ok sc__law_keys (fun vs H Q E h => ?_) (fun cdv B outer s H vs Q E hr h => ?_)
  · obtain ⟨d, a, ns, k, m, s, rfl, _⟩ := h
    rfl
  · obtain ⟨d, a, ns, k, m, sp, rfl, dr, hk, hm, hs, q⟩ := h
    have nd := sc__law_keys.nd
    refine ⟨_, pss_one (ps_ret (pe_lc (own := [("turn", 3)]) (g := gName 3) (tt := tYes) rfl nd (pi_range1 rfl T.g_range (pa_cons (pe_call (ok_take T) hr (by rfl) T.m__law_take T.F__law_take.kp (b_take T) .nil pass0 (pa_cons (pv 0) (pa_cons (pe_op op_add (pv 1) pe_int) pa_nil))) pa_nil))
      (blkOk_by (own := [("turn", 3)]) (N := ["draw", "most", "span", "turn"]) (sc := defScope s__law_keys) (by decide +kernel))
      (fun _ _ _ _ _ => pg_name (i := 3) nd rfl (Or.inl rfl)) (fun _ _ _ _ _ => pts_nil)
      (fun _ _ _ _ _ => pe_op op_sub (pe_call (ok_take T) hr (by rfl) T.m__law_take T.F__law_take.kp (b_take T) .nil pass0 (pa_cons (pv 0) (pa_cons (pv 2) pa_nil)))
        (pe_callTy call_int1 (by rfl) T.g_int (by decide +kernel) (pa_cons (pe_op op_fdiv (pv 2) pe_int) pa_nil))))), ?_⟩
    refine ⟨_, rfl, _, rfl, _, _, rfl, rfl, d, a, ns, k, m + 1, rfl, dr, by omega, by omega, fun H1 r b1 dr1 hr1 => ?_⟩
    refine ⟨_, rfl, by omega, by omega, fun D hD => ?_⟩
    rw [Int.toNat_natCast]
    have hDd : D ≠ d := fun z => by rw [z, dr1.l] at hD; cases hD
    have hD0 : H D = none := by
      cases e : H D with
      | none => rfl
      | some o => rw [b1 D o hDd e] at hD; cases hD
    refine lc_it (walk_range (lo := 0) (n := r)) (fun i H' => ∃ ks : List Int, H' D = some (.lst (ks.map V.int)) ∧ ks.length = i ∧ (∀ z ∈ ks, -((sp : Int) / 2) ≤ z ∧ z < (sp : Int) - (sp : Int) / 2) ∧ But d H H' ∧ DrAt K H' d a ns (k + 1 + i))
      ⟨[], upd_same, rfl, fun z hz => (nomatch hz), ?_, ?_⟩ (fun k H' _ h => trivial) ?_ ?_
    · exact b1.trans (But.of (Same.up hD))
    · exact ⟨(Same.up hD) _ _ dr1.l, dr1.n, (Same.up hD).seq dr1.s, dr1.h⟩
    · rintro i x H2 H3 hi ⟨ks, h1, h2, h3, h4, h5⟩ ⟨rfl, ex⟩
      refine ⟨rfl, ?_⟩
      refine iteT (B := ∃ ks : List Int, H3 D = some (.lst (ks.map V.int)) ∧ ks.length = i + 1 ∧ (∀ z ∈ ks, -((sp : Int) / 2) ≤ z ∧ z < (sp : Int) - (sp : Int) / 2) ∧ But d H H3 ∧ DrAt K H3 d a ns (k + 1 + (i + 1))) ?_
      refine ⟨_, rfl, _, rfl, d, a, ns, k + 1 + i, sp, rfl, h5, by omega, hs, fun H4 v b4 dr4 hv => ?_⟩
      refine ⟨_, rfl, _, _, rfl, rfl, ⟨by decide, by decide⟩, .inl ⟨_, rfl, _, _, rfl, rfl, ?_⟩⟩
      have bf : ∀ zs : List V, But d H (upd H4 D (.lst zs)) := fun zs b o hb e => by
        rw [upd_ne (ne_of_none e hD0)]
        exact b4 _ _ hb (h4 b o hb e)
      refine ⟨_, b4 _ _ hDd h1, small1000 (by rw [List.length_map]; omega), ks ++ [(v : Int) - (sp : Int) / 2], ?_, by rw [List.length_append, h2]; rfl, ?_, ?_, ?_⟩
      · rw [upd_same, List.map_append]
        rfl
      · intro z hz
        rcases List.mem_append.mp hz with hz | hz
        · exact h3 z hz
        · rw [List.mem_singleton.mp hz]
          omega
      · exact bf _
      · exact ⟨by rw [upd_ne hDd.symm]; exact dr4.l, dr4.n, (bf _).seq dr.s dr.n, dr4.h⟩
    · rintro H2 ⟨ks, h1, h2, h3, h4, h5⟩
      exact q _ D ks _ h4 h5 (by omega) (by omega) h3 hD0 h1
theorem b_keys (T : Tx K mg A) : L2.Binds K A.d__law_keys ["draw", "most", "span"] [] := T.F__law_keys.binds fun _ _ _ _ _ _ us hl => match us, hl with | [_, _, _], _ => rfl
theorem kb_of (T : Tx K mg A) : ∃ mv : List Value, KBn K A.d_t_of ["cls", "row", "arms"] 2 ["arms"] (fun us ws => us ++ (mv ++ ws)) (fun vs zs => vs ++ zs) := by
  obtain ⟨mv, h⟩ := T.F_t_of.kbinds0 (ps := ["cls", "row", "arms"]) 2 ["arms"] [] (fun us mv ws => us ++ (mv ++ ws)) (by simp) (by simp) (fun r1 r2 r3 => r1.append (r2.append r3))
    (fun D doc pm an cdv ct us mv ws h1 h2 h3 => by
      match us, mv, ws, h1, h2, h3 with
      | [a, b], [], [c], _, _, _ => rfl)
  exact ⟨mv, h⟩
theorem TreeAt.but {C d : Addr} {H H' : Hp} {p n w : Nat} {xs : List V} (h : TreeAt C H p n w) (s : But d H H') (hd : H d = some (.lst xs)) : TreeAt C H' p n w := by
  obtain ⟨dx, t, a, b⟩ := h.ob
  exact ⟨⟨dx, t, s _ _ (ne_of a hd (by intro z; cases z)) a, s _ _ (ne_of b hd (by intro z; cases z)) b⟩, h.hn, h.hw⟩
/-- what stood before an instance was made stands behind its making -/
theorem new_same {C x dx : Addr} {H H' : Hp} (nx : H x = none) (ndx : H dx = none) (k : ∀ b o, (upd (upd H dx (.own x)) x (.ins C dx [])) b = some o → b ≠ x → H' b = some o) : Same H H' := fun b o e => by
  refine k b o ?_ (ne_of_none e nx)
  rw [upd_ne (ne_of_none e nx), upd_ne (ne_of_none e ndx)]
  exact e

end

end Tw

set_option Elab.async false
set_option linter.all false
set_option maxRecDepth 100000
set_option maxHeartbeats 2000000
namespace Tw
open PySem PySem.Spec PyProof.Rows L2
section
variable {P : Program} {w : World} {K : PySem.W.Frag} {mg : Str → Option Value} {base : Heap} {A : Ad}
theorem b_iter' (T : Tx K mg A) : L2.Binds K A.d_t___iter__ ["self"] [] := b_iter T
theorem ix_sq {H : Hp} {a : Addr} {ns : List Int} {i : Nat} {Q : VK} (h : Sq H a (ns.map V.int)) (hi : i < ns.length) (q : Q (.int (ns.getD i 0)) H) : rIx K (.ref a) (.int i) H Q := by
  have e : (ns.map V.int)[i]? = some (V.int (ns.getD i 0)) := by
    rw [List.getElem?_map, List.getElem?_eq_getElem hi, List.getD_eq_getElem?_getD, List.getElem?_eq_getElem hi]
    rfl
  rcases h with h | h
  · exact .inl ⟨a, _, _, _, rfl, rfl, SqL.of h, atI_nat e, q⟩
  · exact .inr (.inl ⟨a, _, _, _, rfl, rfl, SqT.of h, atI_nat e, q⟩)
/-- the faults of a row -/
def faultB (ns : List Int) (w p : Nat) : Bool := decide (0 < p) && decide (ns.getD p 0 < ns.getD ((p - 1) / w) 0)
def faultL (ns : List Int) (w : Nat) : List Nat := (List.range ns.length).filter (faultB ns w)
theorem filt_pick (l : List Nat) (b : Nat → Bool) : vi (l.filter b) = l.filterMap fun j => if b j = true then some (V.int (j : Nat)) else none := by
  unfold vi
  induction l with
  | nil => rfl
  | cons a l ih =>
    by_cases h : b a = true
    · rw [List.filter_cons_of_pos h, List.map_cons, ih, List.filterMap_cons, if_pos h]
    · rw [List.filter_cons_of_neg h, ih, List.filterMap_cons, if_neg h]
def RowIn (H : Hp) (a : Addr) (ns : List Int) : Prop := Sq H a (ns.map V.int) ∧ ns.length ≤ 12 ∧ (∀ n ∈ ns, -1000000000 ≤ n ∧ n ≤ 1000000000)
theorem RowIn.same {H H' : Hp} {a : Addr} {ns : List Int} (h : RowIn H a ns) (s : Same H H') : RowIn H' a ns := ⟨h.1.same s, h.2⟩
def spFau : Sp := fun vs H Q _ => ∃ (a w : Nat) (ns : List Int), vs = [.ref a, .int w] ∧ (1 ≤ w ∧ w ≤ 4) ∧ RowIn H a ns ∧ ∀ H' q, Same H H' → H q = none → H' q = some (.lst (vi (faultL ns w))) → Q (.ref q) H'
theorem ok_fau (T : Tx K mg A) : FnOk P w K mg base CX0 7 A.f_faults A.d_faults ["row", "arms"] spFau := by
  obtain ⟨mo, ko⟩ := kb_of T
  refine T.F_faults.ok sc_faults (fun vs H Q E h => ?_) (fun cdv B outer s H vs Q E hr h => ?_)
  · obtain ⟨a, w, ns, rfl, _⟩ := h
    rfl
  · obtain ⟨a, w, ns, rfl, hw, hrow, q⟩ := h
    have nd := sc_faults.nd
    refine ⟨_, PSs.nox (pss_cons (ps_set (i := 2) nd rfl (Or.inr rfl) (pe_cmethK (pe_glob (v := .ref A.C) (by rfl) T.mC (relR _)) T.cr T.cof (ok_of T) hr ko pass0 (pa_cons (pv 0) pa_nil) (pk_cons (pv 1) pk_nil)))
      (pss_one (ps_ret (pe_lc (own := [("place", 3)]) (g := gName 3) rfl nd (pi_own T.D_t___iter__ (ok_iter T) (hr.mono (by decide)) (b_iter T) (pv 2)) (blkOk_by (own := [("place", 3)]) (N := ["row", "arms", "tree", "place"]) (sc := defScope s_faults) (by decide +kernel))
        (fun _ _ _ _ _ => pg_name (i := 3) nd rfl (Or.inl rfl))
        (fun _ _ _ _ _ => pts_one (PW.pt (pw_and (pt_cmpR op_gt (pv 3) pe_int (nomark _)) (pw_and1 (pt_cmpR op_lt (pe_ix (r := rIx K) ix_seq (pv 0) (pv 3) (fun _ _ => rfl))
          (pe_ix (r := rIx K) ix_seq (pv 0) (pe_meth (pv 2) T.cT T.M_t_parent (ok_par T) (hr.mono (by decide)) (b_par T) .nil pass0 (pa_cons (pv 3) pa_nil)) (fun _ _ => rfl)) (nomark _))))))
        (fun _ _ _ _ _ => pv 3))))), ?_⟩
    refine ⟨rfl, _, rfl, _, rfl, rfl, rfl, a, w, ns, rfl, hw, hrow.1, hrow.2.1, hrow.2.2, fun H1 p s1 p0 t1 => ?_⟩
    obtain ⟨dx, l, h1, h2⟩ := t1.ob
    have noP : (tf ns.length w l).lookup ("parent" : Str) = none := tf_no _ _ _ (by decide +kernel) (by decide +kernel) (by decide +kernel)
    have hlen := hrow.2.1
    refine ⟨_, rfl, p, dx, _, l, _, rfl, h1, tf_pl _ _ _, SqT.of h2, fun D hD => ?_⟩
    refine lc_it (walk_tup (xs := pl ns.length)) (PickI H1 D (List.range ns.length) fun j => if faultB ns w j = true then some (V.int (j : Nat)) else none) (pick_start hD) (fun k H' _ h => SqT.of (h.s _ _ h2)) ?_ ?_
    · rintro k x H2 H3 hk pk ⟨rfl, ex⟩
      obtain ⟨hk', rfl⟩ := map_at ex
      rw [List.getElem_range]
      have hk2 : k < ns.length := by rw [List.length_range] at hk'; exact hk'
      have hrow3 := (hrow.1.same s1).same pk.s
      refine ⟨rfl, _, rfl, _, _, rfl, rfl, _, rfl, ?_⟩
      by_cases h0 : 0 < k
      · rw [decide_eq_true (show (0 : Int) < (k : Nat) by omega)]
        have ep : parV w k = V.int ((k - 1) / w : Nat) := by unfold parV; rw [if_neg (by omega)]
        have hlt : (k - 1) / w < k := Nat.lt_of_le_of_lt (Nat.div_le_self _ _) (by omega)
        refine iteT ⟨_, rfl, _, rfl, ix_sq hrow3 hk2 ⟨_, rfl, _, rfl, p, dx, _, rfl, pk.s _ _ h1, noP, _, rfl, p, ns.length, w, k, rfl, t1.same pk.s, hk2, ?_⟩⟩
        rw [ep]
        refine ix_sq hrow3 (by omega) ⟨_, _, rfl, rfl, _, rfl, ?_⟩
        have ef : faultB ns w k = decide (ns.getD k 0 < ns.getD ((k - 1) / w) 0) := by unfold faultB; rw [decide_eq_true h0, Bool.true_and]
        by_cases hf : ns.getD k 0 < ns.getD ((k - 1) / w) 0
        · rw [decide_eq_true hf] at ef ⊢
          exact iteT ⟨_, rfl, pick_yes hk' (by rw [List.length_range]; omega) (by rw [List.getElem_range, ef]; rfl) (Same.refl _) pk⟩
        · rw [decide_eq_false hf] at ef ⊢
          exact iteF (pick_no hk' (by rw [List.getElem_range, ef]; rfl) (Same.refl _) pk)
      · rw [decide_eq_false (show ¬ (0 : Int) < (k : Nat) by omega)]
        have ef : faultB ns w k = false := by unfold faultB; rw [decide_eq_false h0, Bool.false_and]
        exact iteF (iteF (pick_no hk' (by rw [List.getElem_range, ef]; rfl) (Same.refl _) pk))
    · intro H2 pk
      have ac := pick_end (by rw [pl_len, List.length_range]) pk
      refine q _ D (s1.trans ac.s) (s1.free hD) ?_
      rw [ac.a]
      unfold faultL
      rw [filt_pick]
theorem kb_fau (T : Tx K mg A) : ∃ mv : List Value, KBn K A.d_faults ["row", "arms"] 1 ["arms"] (fun us ws => us ++ (mv ++ ws)) (fun vs zs => vs ++ zs) := by
  obtain ⟨mv, h⟩ := T.F_faults.kbinds0 (ps := ["row", "arms"]) 1 ["arms"] [] (fun us mv ws => us ++ (mv ++ ws)) (by simp) (by simp) (fun r1 r2 r3 => r1.append (r2.append r3))
    (fun D doc pm an cdv ct us mv ws h1 h2 h3 => by
      match us, mv, ws, h1, h2, h3 with
      | [a], [], [c], _, _, _ => rfl)
  exact ⟨mv, h⟩
theorem bd_fau (T : Tx K mg A) : ∃ ds, Vals [V.int 2] ds ∧ L2.Binds K A.d_faults ["row", "arms"] ds := by
  refine T.F_faults.binds0 1 (by simp) rfl (fun D doc pm an cdv ct us ks h1 h2 => ?_)
  match us, ks, h1, h2 with
  | [a], [c], _, _ => exact ⟨_, _, _, _, _, _, rfl, rfl, rfl⟩
def spIsH : Sp := fun vs H Q _ => ∃ (a w : Nat) (ns : List Int), vs = [.ref a, .int w] ∧ (1 ≤ w ∧ w ≤ 4) ∧ RowIn H a ns ∧ ∀ H', Same H H' → Q (.bl (decide (faultL ns w = []))) H'
theorem ok_ish (T : Tx K mg A) : FnOk P w K mg base CX0 8 A.f_is_heap A.d_is_heap ["row", "arms"] spIsH := by
  obtain ⟨mo, ko⟩ := kb_fau T
  refine T.F_is_heap.ok sc_is_heap (fun vs H Q E h => ?_) (fun cdv B outer s H vs Q E hr h => ?_)
  · obtain ⟨a, w, ns, rfl, _⟩ := h
    rfl
  · obtain ⟨a, w, ns, rfl, hw, hrow, q⟩ := h
    refine ⟨_, PSs.nox (pss_one (ps_ret (pe_notT (pe_callN (ok_fau T) hr (by rfl) T.m_faults T.F_faults.kp ko pass0 (pa_cons (pv 0) pa_nil) (pk_cons (pv 1) pk_nil))))), ?_⟩
    refine ⟨_, rfl, _, rfl, rfl, rfl, a, w, ns, rfl, hw, hrow, fun H1 r s1 r0 hr1 => ?_⟩
    refine ⟨!(vi (faultL ns w)).isEmpty, .inl ⟨_, SqL.of hr1, rfl⟩, ?_⟩
    have e : (!(!(vi (faultL ns w)).isEmpty)) = decide (faultL ns w = []) := by
      rw [Bool.not_not]
      unfold vi
      cases faultL ns w with
      | nil => rfl
      | cons x l => rfl
    rw [e]
    exact q _ s1

end

end Tw

set_option Elab.async false
set_option linter.all false
set_option maxRecDepth 100000
set_option maxHeartbeats 2000000
namespace Tw
open PySem PySem.Spec PyProof.Rows L2
section
variable {P : Program} {w : World} {K : PySem.W.Frag} {mg : Str → Option Value} {base : Heap} {A : Ad}
/-- a walk, whatever its turns do -/
theorem walk_gen {J : It} {n : Nat} {G : Hp → Prop} {Y : Nat → Hp → V → Hp → Prop} (w : Walk J n G Y) {Bd : (Hp → Prop) → V → Hp → Prop} {Qd : Hp → Prop} {H0 : Hp} (Pv : Nat → Hp → Prop) (h0 : Pv 0 H0) (hG : ∀ i H, i ≤ n → Pv i H → G H)
    (hs : ∀ i x H H', i < n → Pv i H → Y i H x H' → Bd (Pv (i + 1)) x H') (hd : ∀ H, Pv n H → Qd H) :
    ∃ W : Nat → Nat → Hp → Prop, (∃ m, W 0 m H0) ∧ ∀ i m H, W i m H →
      (J.stop i H ∧ Qd H) ∨ (J.go i H ∧ ∃ Nx : Hp → Prop, (∀ H', Nx H' → ∃ m', m' < m ∧ W (i + 1) m' H') ∧ ∀ x H', J.yld i H x H' → Bd Nx x H') := by
  refine ⟨fun i m H => m = n - i ∧ i ≤ n ∧ Pv i H, ⟨n, (Nat.sub_zero n).symm, Nat.zero_le _, h0⟩, ?_⟩
  rintro i m H ⟨rfl, hi, p⟩
  have q := hG i H hi p
  by_cases hlt : i < n
  · exact .inr ⟨w.goes i H hlt q, Pv (i + 1), fun H' p' => ⟨n - (i + 1), by omega, rfl, hlt, p'⟩, fun x H' y => hs i x H H' hlt p (w.yields i H x H' hlt q y)⟩
  · obtain rfl : i = n := by omega
    exact .inl ⟨w.stops H q, hd H p⟩
/-- a pair of ints at an address -/
def PrAt (H : Hp) (v : V) (p : Int × Int) : Prop := ∃ t, v = .ref t ∧ H t = some (.tup [.int p.1, .int p.2])
abbrev PrsAt (H : Hp) : List V → List (Int × Int) → Prop := Paired (PrAt H)
theorem PrsAt.same {H H' : Hp} {xs : List V} {ps : List (Int × Int)} (h : PrsAt H xs ps) (s : Same H H') : PrsAt H' xs ps := L2.Paired.mapP h fun _ _ ⟨t, e, z⟩ => ⟨t, e, s _ _ z⟩
theorem PrsAt.push {H : Hp} {x : V} {p : Int × Int} (hp : PrAt H x p) : ∀ {xs : List V} {ps : List (Int × Int)}, PrsAt H xs ps → PrsAt H (xs ++ [x]) (ps ++ [p])
  | _, _, .nil => .cons hp .nil
  | _, _, .cons a b => .cons a (PrsAt.push hp b)
/-- a list of pairs under way -/
structure AccP (H1 : Hp) (D : Addr) (ps : List (Int × Int)) (H : Hp) : Prop where
  s : Same H1 H
  n : H1 D = none
  a : ∃ xs, H D = some (.lst xs) ∧ PrsAt H xs ps
theorem AccP.start {H1 : Hp} {D : Addr} (n : H1 D = none) : AccP H1 D [] (upd H1 D (.lst [])) := ⟨Same.up n, n, [], upd_same, .nil⟩
theorem AccP.same {H1 H H' : Hp} {D : Addr} {ps : List (Int × Int)} (h : AccP H1 D ps H) (s : Same H H') : AccP H1 D ps H' :=
  ⟨h.s.trans s, h.n, let ⟨xs, e, z⟩ := h.a; ⟨xs, s _ _ e, z.same s⟩⟩
theorem PrsAt.put {H : Hp} {D : Addr} {xs zs ys : List V} {ps : List (Int × Int)} (hD : H D = some (.lst zs)) : PrsAt H xs ps → PrsAt (upd H D (.lst ys)) xs ps := fun h =>
  L2.Paired.mapP h fun _ _ ⟨t, e, z⟩ => ⟨t, e, by rw [upd_ne (ne_of z hD (by intro q; cases q))]; exact z⟩
theorem AccP.push {H1 H : Hp} {D : Addr} {ps : List (Int × Int)} {x : V} {p : Int × Int} (h : AccP H1 D ps H) (hp : PrAt H x p) (hl : ps.length ≤ 999) :
    ∃ acc, H D = some (.lst acc) ∧ acc.length < sizeLine ∧ AccP H1 D (ps ++ [p]) (upd H D (.lst (acc ++ [x]))) := by
  obtain ⟨xs, e, z⟩ := h.a
  refine ⟨xs, e, small1000 (by rw [z.length]; omega), fun b o k => ?_, h.n, xs ++ [x], upd_same, (PrsAt.push hp z).put e⟩
  rw [upd_ne (ne_of_none k h.n)]
  exact h.s b o k
/-- the fallen pairs of a row -/
def fallR (ns : List Int) (p : Nat) (l : List Nat) : List (Int × Int) := (l.filter fun j => decide (ns.getD j 0 < ns.getD p 0)).map fun (j : Nat) => ((p : Int), ((j : Nat) : Int))
def fallN (ns : List Int) (w k : Nat) : List (Int × Int) := (List.range k).flatMap fun p => fallR ns p (subL ns.length w p)
theorem fallR_len (ns : List Int) (p : Nat) (l : List Nat) : (fallR ns p l).length ≤ l.length := by
  unfold fallR
  rw [List.length_map]
  exact List.length_filter_le _ _
theorem sub_n (n w i : Nat) : (subL n w i).length ≤ n := by
  unfold subL
  exact Nat.le_trans (List.length_filter_le _ _) (by rw [List.length_range]; exact Nat.le_refl _)
theorem fallN_len (ns : List Int) (w : Nat) (hn : ns.length ≤ 12) : ∀ k, (fallN ns w k).length ≤ 12 * k
  | 0 => Nat.le_refl _
  | k + 1 => by
    unfold fallN
    rw [List.range_succ, List.flatMap_append, List.length_append]
    have h1 := fallN_len ns w hn k
    unfold fallN at h1
    have h2 := fallR_len ns k (subL ns.length w k)
    have h3 := sub_n ns.length w k
    simp only [List.flatMap_cons, List.flatMap_nil, List.append_nil]
    omega
theorem fallN_succ (ns : List Int) (w k : Nat) : fallN ns w (k + 1) = fallN ns w k ++ fallR ns k (subL ns.length w k) := by
  unfold fallN
  rw [List.range_succ, List.flatMap_append]
  simp only [List.flatMap_cons, List.flatMap_nil, List.append_nil]
theorem fallR_take (ns : List Int) (p : Nat) (l : List Nat) (j : Nat) (hj : j < l.length) : fallR ns p (l.take (j + 1)) = fallR ns p (l.take j) ++ if ns.getD l[j] 0 < ns.getD p 0 then [((p : Int), ((l[j] : Nat) : Int))] else [] := by
  unfold fallR
  rw [List.take_succ_eq_append_getElem hj, List.filter_append, List.map_append]
  congr 1
  by_cases h : ns.getD l[j] 0 < ns.getD p 0
  · rw [List.filter_cons_of_pos (p := fun j => decide (ns.getD j 0 < ns.getD p 0)) (decide_eq_true h), if_pos h]
    rfl
  · rw [List.filter_cons_of_neg (p := fun j => decide (ns.getD j 0 < ns.getD p 0)) (by rw [decide_eq_false h]; exact Bool.false_ne_true), if_neg h]
    rfl
def spFal : Sp := fun vs H Q _ => ∃ (a w : Nat) (ns : List Int), vs = [.ref a, .int w] ∧ (1 ≤ w ∧ w ≤ 4) ∧ RowIn H a ns ∧ ∀ H' q xs, Same H H' → H q = none → H' q = some (.lst xs) → PrsAt H' xs (fallN ns w ns.length) → Q (.ref q) H'
theorem ok_fal (T : Tx K mg A) : FnOk P w K mg base CX0 7 A.f_falls A.d_falls ["row", "arms"] spFal := by
  obtain ⟨mo, ko⟩ := kb_of T
  refine T.F_falls.ok sc_falls (fun vs H Q E h => ?_) (fun cdv B outer s H vs Q E hr h => ?_)
  · obtain ⟨a, w, ns, rfl, _⟩ := h
    rfl
  · obtain ⟨a, w, ns, rfl, hw, hrow, q⟩ := h
    have nd := sc_falls.nd
    refine ⟨_, PSs.nox (pss_cons (ps_set (i := 2) nd rfl (Or.inr rfl) (pe_cmethK (pe_glob (v := .ref A.C) (by rfl) T.mC (relR _)) T.cr T.cof (ok_of T) hr ko pass0 (pa_cons (pv 0) pa_nil) (pk_cons (pv 1) pk_nil)))
      (pss_one (ps_ret (pe_lc2 (own := [("place", 3), ("below", 4)]) (vs1 := [4]) (g := gName 3) (g1 := gName 4) (tt := tYes) (wi1 := iTup K (tMeth A.C "subtree" (spSub A.C) [] E0 (tVar 2) (tCons (tVar 3) tNil))) rfl nd (pi_own T.D_t___iter__ (ok_iter T) (hr.mono (by decide)) (b_iter T) (pv 2))
        (blkOk_by (own := [("place", 3), ("below", 4)]) (N := ["row", "arms", "tree", "place", "below"]) (sc := defScope s_falls) (by decide +kernel)) (by decide)
        (fun _ _ _ _ _ => pg_name (i := 3) nd rfl (Or.inl rfl)) (fun _ _ _ _ _ => pts_nil)
        (fun _ _ _ _ _ => pi_tup (pe_meth (pv 2) T.cT T.M_t_subtree (ok_sub T) hr (b_sub T) .nil pass0 (pa_cons (pv 3) pa_nil)))
        (fun _ _ _ _ _ => pg_name (i := 4) nd rfl (Or.inl rfl))
        (fun _ _ _ _ _ => pts_one (pt_cmpR op_lt (pe_ix (r := rIx K) ix_seq (pv 0) (pv 4) (fun _ _ => rfl)) (pe_ix (r := rIx K) ix_seq (pv 0) (pv 3) (fun _ _ => rfl)) (nomark _)))
        (fun _ _ _ _ _ => pe_tup (pa_cons (pv 3) (pa_cons (pv 4) pa_nil))))))), ?_⟩
    refine ⟨rfl, _, rfl, _, rfl, rfl, rfl, a, w, ns, rfl, hw, hrow.1, hrow.2.1, hrow.2.2, fun H1 p s1 p0 t1 => ?_⟩
    obtain ⟨dx, l, h1, h2⟩ := t1.ob
    have noS : (tf ns.length w l).lookup ("subtree" : Str) = none := tf_no _ _ _ (by decide +kernel) (by decide +kernel) (by decide +kernel)
    have hlen := hrow.2.1
    refine ⟨_, rfl, p, dx, _, l, _, rfl, h1, tf_pl _ _ _, SqT.of h2, fun D hD => ?_⟩
    refine walk_gen (walk_tup (xs := pl ns.length)) (fun i H' => AccP H1 D (fallN ns w i) H') (AccP.start hD) (fun k H' _ h => SqT.of (h.s _ _ h2)) ?_ ?_
    · rintro k x H2 H3 hk ac ⟨rfl, ex⟩
      obtain ⟨hk', rfl⟩ := map_at ex
      rw [List.getElem_range]
      have hk2 : k < ns.length := by rw [List.length_range] at hk'; exact hk'
      refine ⟨rfl, ?_⟩
      refine iteT (B := AccP H1 D (fallN ns w (k + 1)) H3) ?_
      refine ⟨_, rfl, p, dx, _, rfl, ac.s _ _ h1, noS, _, rfl, p, ns.length, w, k, rfl, t1.same ac.s, hk2, fun H4 b s4 b0 hb => ?_⟩
      have ac4 := ac.same s4
      refine ⟨b, rfl, ⟨_, SqT.of hb⟩, ?_⟩
      have hsub := sub_n ns.length w k
      have hfn := fallN_len ns w hlen k
      refine walk_gen (walk_tup (xs := vi (subL ns.length w k))) (fun j H' => AccP H1 D (fallN ns w k ++ fallR ns k ((subL ns.length w k).take j)) H' ∧ H' b = some (.tup (vi (subL ns.length w k)))) ⟨?_, hb⟩ (fun j H' _ h => SqT.of h.2) ?_ ?_
      · rw [List.take_zero, show fallR ns k [] = [] from rfl, List.append_nil]
        exact ac4
      · rintro j x H5 H6 hj ⟨ac5, hb5⟩ ⟨rfl, ex⟩
        obtain ⟨hj', rfl⟩ := map_at ex
        have hj2 : (subL ns.length w k)[j] < ns.length := List.mem_range.mp (List.mem_filter.mp (List.getElem_mem hj')).1
        have hrow5 := (hrow.1.same s1).same ac5.s
        refine ⟨rfl, _, rfl, _, rfl, ix_sq hrow5 hj2 ⟨_, rfl, _, rfl, ix_sq hrow5 hk2 ⟨_, _, rfl, rfl, _, rfl, ?_⟩⟩⟩
        have et := fallR_take ns k (subL ns.length w k) j hj'
        have hfr := fallR_len ns k ((subL ns.length w k).take j)
        have htk : ((subL ns.length w k).take j).length ≤ 12 := by rw [List.length_take]; omega
        by_cases hf : ns.getD (subL ns.length w k)[j] 0 < ns.getD k 0
        · rw [decide_eq_true hf]
          rw [if_pos hf] at et
          refine iteT ⟨_, rfl, _, rfl, by show 2 ≤ sizeLine; decide, fun t ht => ?_⟩
          have ac6 := ac5.same (Same.up (o := .tup [V.int (k : Nat), V.int ((subL ns.length w k)[j] : Nat)]) ht)
          obtain ⟨acc, e1, e2, e3⟩ := ac6.push (x := .ref t) (p := ((k : Int), (((subL ns.length w k)[j] : Nat) : Int))) ⟨t, rfl, upd_same⟩ (by rw [List.length_append]; omega)
          refine ⟨acc, e1, e2, ?_, ?_⟩
          · rw [et, ← List.append_assoc]
            exact e3
          · rw [upd_ne (ne_of ((Same.up ht) _ _ hb5) e1 (by intro z; cases z))]
            exact (Same.up ht) _ _ hb5
        · rw [decide_eq_false hf]
          rw [if_neg hf, List.append_nil] at et
          refine iteF ⟨?_, hb5⟩
          rw [et]
          exact ac5
      · rintro H5 ⟨ac5, _⟩
        rw [vi_len, List.take_length, ← fallN_succ] at ac5
        exact ac5
    · intro H2 ac
      rw [pl_len] at ac
      obtain ⟨xs, e1, e2⟩ := ac.a
      exact q _ D xs (s1.trans ac.s) (s1.free hD) e1 e2

end

end Tw

set_option Elab.async false
set_option linter.all false
set_option maxRecDepth 100000
set_option maxHeartbeats 2000000
namespace Tw
open PySem PySem.Spec PyProof.Rows L2
section
variable {P : Program} {w : World} {K : PySem.W.Frag} {mg : Str → Option Value} {base : Heap} {A : Ad}
/-! ranks -/
open SrtO (lexB lexB_iff lexB_no Srtd Stb)
def prsL (ns : List Int) : List (Int × Int) := (List.range ns.length).map fun (p : Nat) => (ns.getD p 0, ((p : Nat) : Int))
def rankN (ns : List Int) (p : Nat) : Nat := (prsL ns).countP fun z => lexB z (ns.getD p 0, (p : Int))
def rankL (ns : List Int) : List Nat := (List.range ns.length).map (rankN ns)
theorem lex_tot {p q : Int × Int} (h : lexB p q = false) (n : p ≠ q) : lexB q p = true := by
  have a := lexB_no.mp h
  refine lexB_iff.mpr ?_
  by_cases e : q.1 = p.1
  · have h2 : q.2 ≠ p.2 := fun e2 => n (Prod.ext e.symm e2.symm)
    exact .inr ⟨e, by omega⟩
  · exact .inl (by omega)
theorem idx_cnt (p : Int × Int) : ∀ zs : List (Int × Int), zs.Pairwise (fun x y => lexB y x = false) → zs.Nodup → p ∈ zs → ∃ j, zs[j]? = some p ∧ (∀ m, m < j → zs[m]? ≠ some p) ∧ j = zs.countP fun z => lexB z p
  | [], _, _, h => nomatch h
  | z :: l, hs, hn, hp => by
    obtain ⟨h1, h2⟩ := List.pairwise_cons.mp hs
    obtain ⟨n1, n2⟩ := List.nodup_cons.mp hn
    by_cases e : z = p
    · subst e
      refine ⟨0, rfl, fun m hm => (nomatch hm), ?_⟩
      have self : lexB z z = false := lexB_no.mpr (by omega)
      rw [List.countP_cons, self, if_neg Bool.false_ne_true, Nat.add_zero]
      refine (List.countP_eq_zero.mpr fun y hy => ?_).symm
      rw [h1 y hy]
      exact Bool.false_ne_true
    · have hpl : p ∈ l := (List.mem_cons.mp hp).resolve_left fun q => e q.symm
      obtain ⟨j, a1, a2, a3⟩ := idx_cnt p l h2 n2 hpl
      refine ⟨j + 1, a1, fun m hm => ?_, ?_⟩
      · cases m with
        | zero => exact fun q => e (Option.some.inj q)
        | succ m => exact a2 m (by omega)
      · have lt : lexB z p = true := lex_tot (h1 p hpl) (fun q => e q.symm)
        rw [List.countP_cons, lt, if_pos rfl, a3]
theorem prs_at (ns : List Int) (k : Nat) (h : k < ns.length) : (prsL ns)[k]? = some (ns[k], ((k : Nat) : Int)) := by
  unfold prsL
  rw [List.getElem?_map, List.getElem?_range h]
  show some (ns.getD k 0, ((k : Nat) : Int)) = _
  rw [List.getD_eq_getElem?_getD, List.getElem?_eq_getElem h]
  rfl
theorem prs_nodup (ns : List Int) : (prsL ns).Nodup := by
  unfold prsL
  refine List.pairwise_map.mpr (List.Pairwise.imp (fun {a b} h e => h (Int.ofNat.inj (congrArg Prod.snd e))) (List.nodup_range (n := ns.length)))
/-- what stands where, read back -/
def kH (H : Hp) : V → Int × Int
  | .ref t => match H t with | some (.tup [.int i, .int j]) => (i, j) | _ => (0, 0)
  | _ => (0, 0)
theorem kH_at {H : Hp} {v : V} {p : Int × Int} (h : PrAt H v p) : kH H v = p ∧ ∃ t, v = .ref t ∧ H t = some (.tup [.int (kH H v).1, .int (kH H v).2]) := by
  obtain ⟨t, rfl, e⟩ := h
  have k : kH H (.ref t) = p := by
    show (match H t with | some (.tup [.int i, .int j]) => (i, j) | _ => (0, 0)) = p
    rw [e]
  exact ⟨k, t, rfl, by rw [k]; exact e⟩
theorem kH_map {H : Hp} : ∀ {xs : List V} {ps : List (Int × Int)}, PrsAt H xs ps → xs.map (kH H) = ps
  | _, _, .nil => rfl
  | _, _, .cons a b => by rw [List.map_cons, (kH_at a).1, kH_map b]
theorem prs_mem {H : Hp} : ∀ {xs : List V} {ps : List (Int × Int)}, PrsAt H xs ps → ∀ x ∈ xs, ∃ p, PrAt H x p
  | _, _, .cons a b, x, hx => by
    rcases List.mem_cons.mp hx with rfl | hx
    · exact ⟨_, a⟩
    · exact prs_mem b x hx
theorem prs_of {H : Hp} : ∀ {xs : List V}, (∀ x ∈ xs, ∃ p, PrAt H x p) → PrsAt H xs (xs.map (kH H))
  | [], _ => .nil
  | x :: xs, h => by
    obtain ⟨p, hp⟩ := h x (List.mem_cons_self ..)
    refine .cons ?_ (prs_of fun y hy => h y (List.mem_cons_of_mem _ hy))
    rw [(kH_at hp).1]
    exact hp
theorem prs_get {H : Hp} : ∀ {xs : List V} {ps : List (Int × Int)} {i : Nat} {x : V}, PrsAt H xs ps → xs[i]? = some x → ∃ p, ps[i]? = some p ∧ PrAt H x p
  | _, _, 0, x, .cons a b, h => ⟨_, rfl, by cases h; exact a⟩
  | _, _, i + 1, x, .cons a b, h => prs_get (i := i) b h
/-- a pair as data -/
def prP (p : Int × Int) : PyData := .tuple [.int p.1, .int p.2]
theorem prP_dp (K : PySem.W.Frag) {H : Hp} {v : V} {p : Int × Int} (h : PrAt H v p) : Dp K H v (prP p) := by
  obtain ⟨t, rfl, e⟩ := h
  exact .tup (SqT.of e) (.cons (.int _) (.cons (.int _) .nil))
theorem prPs_dp (K : PySem.W.Frag) {H : Hp} : ∀ {xs : List V} {ps : List (Int × Int)}, PrsAt H xs ps → DpAll K H xs (ps.map prP)
  | _, _, .nil => .nil
  | _, _, .cons a b => .cons (prP_dp K a) (prPs_dp K b)
theorem prP_shaped (p : Int × Int) : SeqAt.shaped (prP p) = true := by
  unfold SeqAt.shaped prP
  simp [PyData.canLay0, PyData.canLayAll0, PyData.depth, PyData.depthAll]
theorem prPs_shaped (ps : List (Int × Int)) : SeqAt.shaped (.list (ps.map prP)) = true := by
  have h1 : PyData.canLayAll0 (ps.map prP) = true := by
    induction ps with
    | nil => rfl
    | cons m ms ih => rw [List.map_cons, PyData.canLayAll0, ih]; rfl
  have h2 : PyData.depthAll (ps.map prP) ≤ 3 := by
    induction ps with
    | nil => simp [PyData.depthAll]
    | cons m ms ih =>
      have i2 := ih (by
        rw [List.map_cons, PyData.canLayAll0] at h1
        exact (Bool.and_eq_true_iff.mp h1).2)
      have hp : PyData.depth (prP m) ≤ 3 := by simp [prP, PyData.depth, PyData.depthAll]
      simp only [List.map_cons, PyData.depthAll]
      omega
  have h3 : PyData.depth (.list (ps.map prP)) ≤ 64 := by
    simp only [PyData.depth]
    omega
  unfold SeqAt.shaped
  rw [decide_eq_true h3, Bool.and_true]
  simp only [PyData.canLay0]
  exact h1
theorem prP_eqv (p q : Int × Int) : PyData.eqv (prP p) (prP q) = decide (p = q) := by
  unfold prP
  have e : PyData.eqv (.tuple [.int p.1, .int p.2]) (.tuple [.int q.1, .int q.2]) = ((p.1 == q.1) && (p.2 == q.2)) := by
    simp [PyData.eqv, PyData.eqvAll]
  rw [e]
  by_cases h : p = q
  · subst h
    simp
  · rw [decide_eq_false h]
    by_cases h1 : p.1 = q.1
    · have h2 : p.2 ≠ q.2 := fun z => h (Prod.ext h1 z)
      simp [h1, h2]
    · simp [h1]

def spRan (K : PySem.W.Frag) : Sp := fun vs H Q _ => ∃ (a : Addr) (ns : List Int), vs = [.ref a] ∧ RowIn H a ns ∧ ∀ H' q, Same H H' → H' q = some (.tup (vi (rankL ns))) → Q (.ref q) H'
theorem ok_ran (T : Tx K mg A) : FnOk P w K mg base CX0 5 A.f_ranks A.d_ranks ["row"] (spRan K) := by
  refine T.F_ranks.ok sc_ranks (fun vs H Q E h => ?_) (fun cdv B outer s H vs Q E hr h => ?_)
  · obtain ⟨a, ns, rfl, _⟩ := h
    rfl
  · obtain ⟨a, ns, rfl, hrow, q⟩ := h
    have nd := sc_ranks.nd
    have hu65 : (B.deeper (envOfC "ranks" (defScope s_ranks) s.heap.objs.size A.f_ranks cdv)).units + 65 < cLine := by have := hr.un; omega
    refine ⟨_, pss_cons (ps_set (i := 1) nd rfl (Or.inl rfl) (pe_call (ok_row T) hr (by rfl) T.m_row_of T.F_row_of.kp (b_row T) .nil pass0 (pa_cons (pv 0) pa_nil)))
      (C8.pss_cut (ps_setLc (i := 2) (own := [("key", 4), ("place", 5)]) (g := gTup K 2 (gCons (gName 5) (gCons (gName 4) gNil))) (tt := tYes) rfl nd rfl rfl (sw_true rfl rfl rfl (by decide +kernel)) (pi_enS (by rfl) T.g_enumerate (pa_cons (pv 1) pa_nil))
        (blkOk_by (own := [("key", 4), ("place", 5)]) (N := ["row", "keys", "pairs", "ascending", "key", "place", "pair"]) (sc := defScope s_ranks) (by decide +kernel))
        (fun _ _ _ _ _ => pg_tup rfl (pgs_cons (pg_name (i := 5) nd rfl (Or.inl rfl)) (pgs_cons (pg_name (i := 4) nd rfl (Or.inl rfl)) pgs_nil))) (fun _ _ _ _ _ => pts_nil)
        (fun _ _ _ _ _ => pe_tup (pa_cons (pv 4) (pa_cons (pv 5) pa_nil))))
      (pss_cons (ps_set (i := 3) nd rfl (Or.inr rfl) (pe_callB cr_sortedPO (by rfl) T.g_sorted (by decide +kernel) (pa_cons (pv 2) pa_nil)))
      (pss_one (ps_ret (pe_callTy call_tuple_of (by rfl) T.g_tuple (by decide +kernel) (pa_cons
        (pe_lc (own := [("pair", 6)]) (g := gName 6) (tt := tYes) (te := tBM K "list" (rIndexD K) (tVar 3) (tCons (tVar 6) tNil)) rfl nd (pi_list (pv 2)) (blkOk_by (own := [("pair", 6)]) (N := ["row", "keys", "pairs", "ascending", "key", "place", "pair"]) (sc := defScope s_ranks) (by decide +kernel))
          (fun _ _ _ _ _ => pg_name (i := 6) nd rfl (Or.inl rfl)) (fun _ _ _ _ _ => pts_nil)
          (fun _ _ _ _ _ => pe_bm PySem.F.plainAttrs_list PySem.F.slot_list_index PySem.F.type_list_index (mt_indexD hu65) (pv 3) (pa_cons (pv 6) pa_nil))) pa_nil)))))), ?_⟩
    have hlen := hrow.2.1
    refine ⟨_, rfl, a, ns, rfl, hrow.1, hlen, hrow.2.2, fun H1 t s1 ht => ?_⟩
    refine ⟨fun σ H' => ∃ D xs, σ = [some (.ref a), some (.ref t), some (.ref D), none, none, none, none] ∧ Same H H' ∧ H' D = some (.lst xs) ∧ PrsAt H' xs (prsL ns), ?_, ?_⟩
    · refine ⟨_, rfl, t, ns.map V.int, rfl, .inr ⟨SqT.of ht, fun D hD => ?_⟩⟩
      refine walk_gen walk_enumT (fun i H' => AccP H1 D ((prsL ns).take i) H') (AccP.start hD) (fun k H' _ h => SqT.of (h.s _ _ ht)) ?_ ?_
      · rintro k v H2 H3 hk ac ⟨T', x, x2, rfl, hT, rfl, e1, e2⟩
        obtain ⟨hk', rfl⟩ := ints_at e2
        cases e1
        have hkp : k < (prsL ns).length := by unfold prsL; rw [List.length_map, List.length_range]; exact hk'
        have ac2 := ac.same (Same.up (o := .tup [V.int (k : Nat), V.int ns[k]]) hT)
        refine ⟨_, _, rfl, SqT.of upd_same, rfl, _, _, rfl, _, _, rfl, rfl, rfl, ?_⟩
        refine iteT (B := AccP H1 D ((prsL ns).take (k + 1)) (upd H2 T' (.tup [V.int (k : Nat), V.int ns[k]]))) ?_
        refine ⟨_, rfl, _, rfl, by show 2 ≤ sizeLine; decide, fun t2 ht2 => ?_⟩
        have ac3 := ac2.same (Same.up (o := .tup [V.int ns[k], V.int (k : Nat)]) ht2)
        have hget : (prsL ns)[k] = (ns[k], ((k : Nat) : Int)) := (List.getElem?_eq_some_iff.mp (prs_at ns k hk')).2
        obtain ⟨acc, f1, f2, f3⟩ := ac3.push (x := .ref t2) (p := (ns[k], ((k : Nat) : Int))) ⟨t2, rfl, upd_same⟩ (by rw [List.length_take]; unfold prsL; rw [List.length_map, List.length_range]; omega)
        refine ⟨acc, f1, f2, ?_⟩
        show AccP H1 D ((prsL ns).take (k + 1)) _
        rw [List.take_succ_eq_append_getElem hkp, hget]
        exact f3
      · intro H2 ac
        rw [show (ns.map V.int).length = (prsL ns).length by unfold prsL; rw [List.length_map, List.length_map, List.length_range], List.take_length] at ac
        obtain ⟨xs, e1, e2⟩ := ac.a
        exact ⟨D, xs, rfl, s1.trans ac.s, e1, e2⟩
    · rintro σ H2 ⟨D, xs, rfl, s2, hD, hxs⟩
      have hmem : ∀ x ∈ xs, ∃ z, PrAt H2 x z := prs_mem hxs
      refine ⟨_, rfl, D, xs, kH H2, rfl, SqL.of hD, (fun x hx => let ⟨z, hz⟩ := hmem x hx; (kH_at hz).2), fun ys p srt stb hp => ?_⟩
      have s3 : Same H2 (upd H2 p (.lst ys)) := Same.up hp
      have hysm : ∀ y ∈ ys, ∃ z, PrAt H2 y z := fun y hy => hmem y (stb.perm.mem_iff.mp hy)
      have hys : PrsAt (upd H2 p (.lst ys)) ys (ys.map (kH H2)) := (prs_of hysm).same s3
      have hperm : (ys.map (kH H2)).Perm (prsL ns) := by
        have z := stb.perm.map (kH H2)
        rw [kH_map hxs] at z
        exact z
      have hsrt : (ys.map (kH H2)).Pairwise (fun x y => lexB y x = false) := List.pairwise_map.mpr srt
      have hnd : (ys.map (kH H2)).Nodup := hperm.nodup_iff.mpr (prs_nodup ns)
      generalize ys.map (kH H2) = zs at hys hperm hsrt hnd
      have hp3 : upd H2 p (.lst ys) p = some (.lst ys) := upd_same
      have hD3 := s3 _ _ hD
      have hxs3 := hxs.same s3
      have s23 := s2.trans s3
      generalize upd H2 p (.lst ys) = H3 at hys hp3 hD3 hxs3 s23
      refine ⟨_, rfl, D, rfl, ⟨_, SqL.of hD3⟩, fun E2 hE2 => ?_⟩
      have hxl : xs.length = ns.length := by
        rw [hxs.length]
        unfold prsL
        rw [List.length_map, List.length_range]
      refine lc_it (walk_list (xs := xs)) (PickI H3 E2 (List.range ns.length) fun k => some (V.int (rankN ns k : Nat))) (pick_start hE2) (fun k H' _ h => SqL.of (h.s _ _ hD3)) ?_ ?_
      · rintro k x H5 H6 hk pk ⟨rfl, ex⟩
        obtain ⟨z, hz, hzx⟩ := prs_get hxs3 ex
        have hkn : k < ns.length := by omega
        have hzv : z = (ns.getD k 0, ((k : Nat) : Int)) := by
          unfold prsL at hz
          rw [List.getElem?_map, List.getElem?_range hkn] at hz
          exact (Option.some.inj hz).symm
        subst hzv
        have hmz : (ns.getD k 0, ((k : Nat) : Int)) ∈ zs := hperm.mem_iff.mpr (by
          unfold prsL
          exact List.mem_map.mpr ⟨k, List.mem_range.mpr hkn, rfl⟩)
        obtain ⟨j, j1, j2, j3⟩ := idx_cnt _ zs hsrt hnd hmz
        have ej : j = rankN ns k := by
          rw [j3, hperm.countP_eq]
          rfl
        have hzx6 : PrAt H6 x (ns.getD k 0, ((k : Nat) : Int)) := let ⟨t2, e1, e2⟩ := hzx; ⟨t2, e1, pk.s _ _ e2⟩
        refine ⟨rfl, ?_⟩
        refine iteT (B := PickI H3 E2 (List.range ns.length) (fun k => some (V.int (rankN ns k : Nat))) (k + 1) H6) ?_
        refine ⟨_, rfl, .inl ⟨rfl, _, SqL.of (pk.s _ _ hp3)⟩, _, rfl, p, x, prP (ns.getD k 0, ((k : Nat) : Int)), zs.map prP, j, prP (ns.getD k 0, ((k : Nat) : Int)), rfl, rfl, .lst (SqL.of (pk.s _ _ hp3)) (prPs_dp _ (hys.same pk.s)), prP_dp _ hzx6, prPs_shaped _, prP_shaped _, ?_, ?_, fun m z' hm hz' => ?_, ?_⟩
        · rw [List.getElem?_map, j1]
          rfl
        · rw [prP_eqv, decide_eq_true rfl]
        · rw [List.getElem?_map] at hz'
          cases e : zs[m]? with
          | none => rw [e] at hz'; cases hz'
          | some z2 =>
            rw [e] at hz'
            obtain rfl := Option.some.inj hz'
            rw [prP_eqv, decide_eq_false fun e2 => j2 m hm (by rw [e, e2])]
        · rw [ej]
          exact pick_yes (by rw [List.length_range]; exact hkn) (by rw [List.length_range]; omega) (by rw [List.getElem_range]) (Same.refl _) pk
      · intro H5 pk
        have ac := pick_end (by rw [hxl, List.length_range]) pk
        have e : ((List.range ns.length).filterMap fun k => some (V.int (rankN ns k : Nat))) = vi (rankL ns) := by
          unfold vi rankL
          rw [List.filterMap_eq_map', List.map_map]
          rfl
        rw [e] at ac
        exact ⟨E2, _, rfl, .inl ⟨SqL.of ac.a, fun r hr0 => q _ r (s23.trans (ac.s.trans (Same.up hr0))) upd_same⟩⟩
theorem b_ran (T : Tx K mg A) : L2.Binds K A.d_ranks ["row"] [] := T.F_ranks.binds fun _ _ _ _ _ _ us hl => match us, hl with | [_], _ => rfl

end

end Tw

set_option Elab.async false
set_option linter.all false
set_option maxRecDepth 100000
set_option maxHeartbeats 2000000
namespace Tw
open PySem PySem.Spec PyProof.Rows L2
section
variable {P : Program} {w : World} {K : PySem.W.Frag} {mg : Str → Option Value} {base : Heap} {A : Ad}
def spPick (K : PySem.W.Frag) : Sp := fun vs H Q _ => ∃ (d a b : Addr) (ns zs : List Int) (k : Nat), vs = [.ref d, .ref b] ∧ DrAt K H d a ns k ∧ k < 50000 ∧ H b = some (.lst (zs.map V.int)) ∧ b ≠ d ∧ 0 < zs.length ∧
  ∀ (H' : Hp) (z : Int), But d H H' → DrAt K H' d a ns (k + 1) → z ∈ zs → Q (.int z) H'
theorem ok_pick (T : Tx K mg A) : FnOk P w K mg base CX0 4 A.f__law_pick A.d__law_pick ["draw", "things"] (spPick K) := by
  refine T.F__law_pick.ok sc__law_pick (fun vs H Q E h => ?_) (fun cdv B outer s H vs Q E hr h => ?_)
  · obtain ⟨d, a, b, ns, zs, k, rfl, _⟩ := h
    rfl
  · obtain ⟨d, a, b, ns, zs, k, rfl, dr, hk, hb, hbd, hz, q⟩ := h
    refine ⟨_, pss_one (ps_ret (pe_ix ix_list (pv 1) (pe_call (ok_take T) hr (by rfl) T.m__law_take T.F__law_take.kp (b_take T) .nil pass0 (pa_cons (pv 0) (pa_cons (pe_callB call_len_seq (by rfl) T.g_len PySem.boot_len (pa_cons (pv 1) pa_nil)) pa_nil))) (fun _ _ => rfl))), ?_⟩
    refine ⟨_, rfl, _, rfl, _, rfl, b, _, rfl, .inl (SqL.of hb), d, a, ns, k, (zs.map V.int).length, rfl, dr, by omega, by rw [List.length_map]; exact hz, fun H1 r b1 dr1 hr1 => ?_⟩
    rw [List.length_map] at hr1
    have e : (zs.map V.int)[r]? = some (V.int zs[r]) := by rw [List.getElem?_map, List.getElem?_eq_getElem hr1]; rfl
    exact ⟨b, _, _, _, rfl, rfl, SqL.of (b1 _ _ hbd hb), atI_nat e, q H1 _ b1 dr1 (List.getElem_mem hr1)⟩
theorem b_pick (T : Tx K mg A) : L2.Binds K A.d__law_pick ["draw", "things"] [] := T.F__law_pick.binds fun _ _ _ _ _ _ us hl => match us, hl with | [_, _], _ => rfl
def spArm (K : PySem.W.Frag) : Sp := fun vs H Q _ => ∃ (d a : Addr) (ns : List Int) (k : Nat), vs = [.ref d] ∧ DrAt K H d a ns k ∧ k < 50000 ∧
  ∀ (H' : Hp) (w : Nat), But d H H' → DrAt K H' d a ns (k + 1) → (1 ≤ w ∧ w ≤ 4) → Q (.int w) H'
theorem ok_arm (T : Tx K mg A) : FnOk P w K mg base CX0 5 A.f__law_arms A.d__law_arms ["draw"] (spArm K) := by
  refine T.F__law_arms.ok sc__law_arms (fun vs H Q E h => ?_) (fun cdv B outer s H vs Q E hr h => ?_)
  · obtain ⟨d, a, ns, k, rfl, _⟩ := h
    rfl
  · obtain ⟨d, a, ns, k, rfl, dr, hk, q⟩ := h
    refine ⟨_, pss_one (ps_ret (pe_call (ok_pick T) hr (by rfl) T.m__law_pick T.F__law_pick.kp (b_pick T) .nil pass0 (pa_cons (pv 0) (pa_cons (pe_lst (pa_cons pe_int (pa_cons pe_int (pa_cons pe_int (pa_cons pe_int (pa_cons pe_int (pa_cons pe_int pa_nil))))))) pa_nil)))), ?_⟩
    refine ⟨_, rfl, by show 6 ≤ sizeLine; decide, fun b hb => ?_⟩
    have hbd : b ≠ d := fun z => by rw [z, dr.l] at hb; cases hb
    refine ⟨d, a, b, ns, [2, 2, 2, 3, 1, 4], k, rfl, dr.same (Same.up hb), hk, upd_same, hbd, by decide, fun H1 z b1 dr1 hz => ?_⟩
    have h4 : 1 ≤ z ∧ z ≤ 4 := by
      simp only [List.mem_cons, List.not_mem_nil, or_false] at hz
      omega
    obtain ⟨w, rfl⟩ : ∃ w : Nat, z = (w : Int) := ⟨z.toNat, by omega⟩
    exact q H1 w ((But.of (Same.up hb)).trans b1) dr1 ⟨by omega, by omega⟩
theorem b_arm (T : Tx K mg A) : L2.Binds K A.d__law_arms ["draw"] [] := T.F__law_arms.binds fun _ _ _ _ _ _ us hl => match us, hl with | [_], _ => rfl
/-! heaps -/
def lheapB (ns : List Int) (w p : Nat) : Bool := (wayL w p).any fun q => decide (ns.getD p 0 < ns.getD q 0)
def lheap (ns : List Int) (w : Nat) : Bool := (List.range ns.length).all fun p => !lheapB ns w p
theorem way_rec (w p : Nat) (hw : 1 ≤ w ∧ w ≤ 4) (hp : p ≤ 12) (h0 : 0 < p) : wayL w p = wayL w ((p - 1) / w) ++ [p] := by
  unfold wayL
  have e := up_eq w (by omega) p (by omega) hw.1
  rw [if_neg (by omega)] at e
  rw [e, List.reverse_cons]
theorem way_zero : ∀ w, w < 5 → 1 ≤ w → wayL w 0 = [0] := by decide +kernel
theorem no_fault {ns : List Int} {w : Nat} (hw : 1 ≤ w ∧ w ≤ 4) (hn : ns.length ≤ 12) (h : faultL ns w = []) : ∀ p, p < ns.length → ∀ q ∈ wayL w p, ns.getD q 0 ≤ ns.getD p 0 := by
  have h1 : ∀ p, p < ns.length → 0 < p → ns.getD ((p - 1) / w) 0 ≤ ns.getD p 0 := fun p hp h0 => by
    refine Int.not_lt.mp fun z => ?_
    have m : p ∈ faultL ns w := by
      unfold faultL
      refine List.mem_filter.mpr ⟨List.mem_range.mpr hp, ?_⟩
      unfold faultB
      rw [decide_eq_true h0, decide_eq_true z]
      rfl
    rw [h] at m
    cases m
  intro p
  induction p using Nat.strongRecOn with
  | _ p ih =>
    intro hp q hq
    by_cases h0 : 0 < p
    · have hlt : (p - 1) / w < p := Nat.lt_of_le_of_lt (Nat.div_le_self _ _) (by omega)
      rw [way_rec w p hw (by omega) h0] at hq
      rcases List.mem_append.mp hq with hq | hq
      · exact Int.le_trans (ih _ hlt (by omega) q hq) (h1 p hp h0)
      · rw [List.mem_singleton.mp hq]
        exact Int.le_refl _
    · obtain rfl : p = 0 := by omega
      rw [way_zero w (by omega) hw.1] at hq
      rw [List.mem_singleton.mp hq]
      exact Int.le_refl _
theorem par_way (w p : Nat) (hw : 1 ≤ w ∧ w ≤ 4) (hp : p ≤ 12) (h0 : 0 < p) : (p - 1) / w ∈ wayL w p := by
  rw [way_rec w p hw hp h0]
  have h := self_sub w (by omega) ((p - 1) / w) (by have := Nat.div_le_self (p - 1) w; omega) hw.1
  exact List.mem_append_left _ h
theorem lheap_fault (ns : List Int) (w : Nat) (hw : 1 ≤ w ∧ w ≤ 4) (hn : ns.length ≤ 12) : lheap ns w = decide (faultL ns w = []) := by
  by_cases h : faultL ns w = []
  · rw [decide_eq_true h]
    unfold lheap
    refine List.all_eq_true.mpr fun p hp => ?_
    have hp := List.mem_range.mp hp
    have z : lheapB ns w p = false := by
      unfold lheapB
      refine List.any_eq_false.mpr fun q hq => ?_
      have := no_fault hw hn h p hp q hq
      rw [decide_eq_false (by omega)]
      exact Bool.false_ne_true
    rw [z]
    rfl
  · rw [decide_eq_false h]
    obtain ⟨p, hp⟩ := List.exists_mem_of_ne_nil _ h
    unfold faultL at hp
    obtain ⟨h1, h2⟩ := List.mem_filter.mp hp
    unfold faultB at h2
    obtain ⟨h3, h4⟩ := Bool.and_eq_true_iff.mp h2
    have h3 := of_decide_eq_true h3
    unfold lheap
    refine List.all_eq_false.mpr ⟨p, h1, ?_⟩
    have hp12 : p ≤ 12 := by have := List.mem_range.mp h1; omega
    have z : lheapB ns w p = true := by
      unfold lheapB
      exact List.any_eq_true.mpr ⟨_, par_way w p hw hp12 h3, h4⟩
    rw [z]
    exact Bool.false_ne_true
theorem fall_fault (ns : List Int) (w : Nat) (hw : 1 ≤ w ∧ w ≤ 4) (hn : ns.length ≤ 12) : decide (fallN ns w ns.length = []) = decide (faultL ns w = []) := by
  by_cases h : faultL ns w = []
  · rw [decide_eq_true h]
    refine decide_eq_true (List.eq_nil_iff_forall_not_mem.mpr fun z hz => ?_)
    unfold fallN at hz
    obtain ⟨p, hp, hz⟩ := List.mem_flatMap.mp hz
    unfold fallR at hz
    obtain ⟨j, hj, _⟩ := List.mem_map.mp hz
    obtain ⟨j1, j2⟩ := List.mem_filter.mp hj
    unfold subL at j1
    obtain ⟨k1, k2⟩ := List.mem_filter.mp j1
    have := no_fault hw hn h j (List.mem_range.mp k1) p (of_decide_eq_true k2)
    have := of_decide_eq_true j2
    omega
  · rw [decide_eq_false h]
    refine decide_eq_false fun e => ?_
    obtain ⟨p, hp⟩ := List.exists_mem_of_ne_nil _ h
    unfold faultL at hp
    obtain ⟨h1, h2⟩ := List.mem_filter.mp hp
    unfold faultB at h2
    obtain ⟨h3, h4⟩ := Bool.and_eq_true_iff.mp h2
    have h3 := of_decide_eq_true h3
    have hpn := List.mem_range.mp h1
    have hp12 : p ≤ 12 := by omega
    have m : ((((p - 1) / w : Nat) : Int), ((p : Nat) : Int)) ∈ fallN ns w ns.length := by
      unfold fallN
      refine List.mem_flatMap.mpr ⟨(p - 1) / w, List.mem_range.mpr (Nat.lt_of_le_of_lt (Nat.div_le_self _ _) (by omega)), ?_⟩
      unfold fallR
      refine List.mem_map.mpr ⟨p, List.mem_filter.mpr ⟨?_, h4⟩, rfl⟩
      unfold subL
      exact List.mem_filter.mpr ⟨h1, decide_eq_true (par_way w p hw hp12 h3)⟩
    rw [e] at m
    cases m
theorem way_le : ∀ w, w < 5 → ∀ p, p < 13 → 1 ≤ w → ∀ q ∈ wayL w p, q ≤ p := by decide +kernel
def spLIs : Sp := fun vs H Q _ => ∃ (a w : Nat) (ns : List Int), vs = [.ref a, .int w] ∧ (1 ≤ w ∧ w ≤ 4) ∧ RowIn H a ns ∧ ∀ H', Same H H' → Q (.bl (lheap ns w)) H'
theorem ok_lis (T : Tx K mg A) : FnOk P w K mg base CX0 4 A.f__law_is_heap A.d__law_is_heap ["row", "wide"] spLIs := by
  refine T.F__law_is_heap.ok sc__law_is_heap (fun vs H Q E h => ?_) (fun cdv B outer s H vs Q E hr h => ?_)
  · obtain ⟨a, w, ns, rfl, _⟩ := h
    rfl
  · obtain ⟨a, w, ns, rfl, hw, hrow, q⟩ := h
    have nd := sc__law_is_heap.nd
    have hlen := hrow.2.1
    refine ⟨_, pss_cons (ps_for PassesOwn.never rfl (pi_range1 rfl T.g_range (pa_cons (pe_callB call_len_seq (by rfl) T.g_len PySem.boot_len (pa_cons (pv 0) pa_nil)) pa_nil)) (pg_name (i := 2) nd rfl (Or.inr rfl))
      (pss_one (ps_if (pt_val (pe_callB (cr_any rfl) (by rfl) T.g_any (by decide +kernel) (pa_cons
        (pe_lc (own := [("above", 3)]) (g := gName 3) (tt := tYes) rfl nd (pi_list (pe_call (ok_lway T) hr (by rfl) T.m__law_way T.F__law_way.kp (b_lway T) .nil pass0 (pa_cons (pv 1) (pa_cons (pv 2) pa_nil))))
          (blkOk_by (own := [("above", 3)]) (N := ["row", "wide", "place", "above"]) (sc := defScope s__law_is_heap) (by decide +kernel)) (fun _ _ _ _ _ => pg_name (i := 3) nd rfl (Or.inl rfl)) (fun _ _ _ _ _ => pts_nil)
          (fun _ _ _ _ _ => pe_cmpR op_lt (pe_ix (r := rIx K) ix_seq (pv 0) (pv 2) (fun _ _ => rfl)) (pe_ix (r := rIx K) ix_seq (pv 0) (pv 3) (fun _ _ => rfl)) (nomark _))) pa_nil))) (pss_one (ps_ret pe_bl)) pss_nil)))
      (pss_one (ps_ret pe_bl)), ?_⟩
    refine ⟨_, rfl, a, _, rfl, hrow.1.len, _, rfl, by omega, by rw [List.length_map]; omega, ?_⟩
    rw [Int.toNat_natCast, List.length_map]
    refine for_range (n := ns.length) (fun k σ H' => ∃ z u, σ = [some (.ref a), some (.int w), z, u] ∧ Same H H' ∧ ∀ p, p < k → lheapB ns w p = false) ⟨none, none, rfl, Same.refl _, fun p hp => (nomatch hp)⟩ ?_ ?_
    · rintro k σ H' hk ⟨z, u, rfl, s1, hno⟩
      have z0 : V.int ((0 : Int) + (k : Nat)) = V.int (k : Nat) := by rw [Int.zero_add]
      rw [z0]
      refine ⟨_, rfl, _, rfl, w, k, rfl, hw, by omega, fun H2 b s2 b0 hb => ?_⟩
      have hwl := way_len w (by omega) k (by omega) hw.1
      refine ⟨b, rfl, ⟨_, SqL.of hb⟩, fun D hD => ?_⟩
      refine lc_it (walk_list (xs := vi (wayL w k))) (PickI H2 D (wayL w k) fun q => some (V.bl (decide (ns.getD k 0 < ns.getD q 0)))) (pick_start hD) (fun k H' _ h => SqL.of (h.s _ _ hb)) ?_ ?_
      · rintro j x H5 H6 hj pk ⟨rfl, ex⟩
        obtain ⟨hj', rfl⟩ := map_at ex
        have hq : (wayL w k)[j] < ns.length := by
          have h := way_le w (by omega) k (by omega) hw.1 _ (List.getElem_mem hj')
          omega
        have hr6 := (hrow.1.same s1).same (s2.trans pk.s)
        refine ⟨rfl, ?_⟩
        refine iteT (B := PickI H2 D (wayL w k) (fun q => some (V.bl (decide (ns.getD k 0 < ns.getD q 0)))) (j + 1) H6) ?_
        exact ⟨_, rfl, _, rfl, ix_sq hr6 hk ⟨_, rfl, _, rfl, ix_sq hr6 hq ⟨_, _, rfl, rfl, pick_yes hj' (by omega) rfl (Same.refl _) pk⟩⟩⟩
      · intro H5 pk
        have ac := pick_end (vi_len _) pk
        have e : ((wayL w k).filterMap fun q => some (V.bl (decide (ns.getD k 0 < ns.getD q 0)))) = ((wayL w k).map fun q => decide (ns.getD k 0 < ns.getD q 0)).map V.bl := by
          rw [List.filterMap_eq_map', List.map_map]
          rfl
        rw [e] at ac
        refine ⟨D, _, rfl, SqL.of ac.a, _, rfl, ?_⟩
        have ea : ((wayL w k).map fun q => decide (ns.getD k 0 < ns.getD q 0)).any id = lheapB ns w k := by
          rw [List.any_map]
          rfl
        rw [ea]
        have s5 := s1.trans (s2.trans ac.s)
        cases hb2 : lheapB ns w k with
        | true =>
          refine iteT ?_
          have el : lheap ns w = false := by
            unfold lheap
            refine List.all_eq_false.mpr ⟨k, List.mem_range.mpr hk, ?_⟩
            rw [hb2]
            exact Bool.false_ne_true
          rw [el] at q
          exact q _ s5
        | false =>
          refine iteF ⟨_, _, rfl, s5, fun p hp => ?_⟩
          by_cases e2 : p = k
          · rw [e2, hb2]
          · exact hno p (by omega)
    · rintro σ H' ⟨z, u, rfl, s1, hno⟩
      have el : lheap ns w = true := by
        unfold lheap
        refine List.all_eq_true.mpr fun p hp => ?_
        rw [hno p (List.mem_range.mp hp)]
        rfl
      rw [el] at q
      exact q _ s1
theorem b_lis (T : Tx K mg A) : L2.Binds K A.d__law_is_heap ["row", "wide"] [] := T.F__law_is_heap.binds fun _ _ _ _ _ _ us hl => match us, hl with | [_, _], _ => rfl

end

end Tw

set_option Elab.async false
set_option linter.all false
set_option maxRecDepth 100000
set_option maxHeartbeats 2000000
namespace Tw
open PySem PySem.Spec PyProof.Rows L2
section
variable {P : Program} {w : World} {K : PySem.W.Frag} {mg : Str → Option Value} {base : Heap} {A : Ad}
theorem ixN_nat {n p : Nat} (h : p < n) : ixN n (p : Int) = some p := by
  unfold ixN
  rw [if_pos (by omega), if_pos (by omega), Int.toNat_natCast]
theorem at_int {ms : List Int} {p : Nat} (h : p < ms.length) : atI (ms.map V.int) (p : Int) = some (V.int ms[p]) := atI_nat (by rw [List.getElem?_map, List.getElem?_eq_getElem h]; rfl)
theorem set_mem {ms ks : List Int} {p : Nat} {v : Int} (h : ∀ z ∈ ms, z ∈ ks) (hv : v ∈ ks) : ∀ z ∈ ms.set p v, z ∈ ks := fun z hz => by
  rcases List.mem_or_eq_of_mem_set hz with h1 | h1
  · exact h z h1
  · rw [h1]
    exact hv
def spLH : Sp := fun vs H Q _ => ∃ (a w : Nat) (ks : List Int), vs = [.ref a, .int w] ∧ (1 ≤ w ∧ w ≤ 4) ∧ H a = some (.lst (ks.map V.int)) ∧ ks.length ≤ 12 ∧
  ∀ (H' : Hp) (q : Addr) (ms : List Int), Same H H' → ms.length = ks.length → (∀ z ∈ ms, z ∈ ks) → H q = none → H' q = some (.lst (ms.map V.int)) → Q (.ref q) H'
theorem ok_lh (T : Tx K mg A) : FnOk P w K mg base CX0 3 A.f__law_heap A.d__law_heap ["keys", "wide"] spLH := by
  refine T.F__law_heap.ok sc__law_heap (fun vs H Q E h => ?_) (fun cdv B outer s H vs Q E hr h => ?_)
  · obtain ⟨a, w, ks, rfl, _⟩ := h
    rfl
  · obtain ⟨a, w, ks, rfl, hw, ha, hl, q⟩ := h
    have nd := sc__law_heap.nd
    refine ⟨_, pss_cons (ps_set (i := 2) nd rfl (Or.inl rfl) (pe_lst pa_nil))
      (pss_cons (ps_for PassesOwn.never rfl (pi_list (pv 0)) (pg_name (i := 3) nd rfl (Or.inl rfl))
        (pss_cons (ps_expr (pe_bm PySem.F.plainAttrs_list PySem.F.slot_list_append PySem.F.type_list_append mt_append (pv 2) (pa_cons (pv 3) pa_nil)))
        (C8.pss_cut (ps_set (i := 4) nd rfl (Or.inl rfl) (pe_op op_sub (pe_callB call_len_seq (by rfl) T.g_len PySem.boot_len (pa_cons (pv 2) pa_nil)) pe_int))
        (pss_one (ps_for PassesOwn.never rfl (pi_range1 rfl T.g_range (pa_cons pe_int pa_nil)) (pg_name (i := 5) nd rfl (Or.inl rfl))
          (pss_cons (ps_if (PW.pt (pw_or (pt_cmpR op_eq (pv 4) pe_int (nomark _)) (pw_or1 (pt_cmpR op_le
              (pe_ix ix_list (pv 2) (pe_call (ok_lpar T) hr (by rfl) T.m__law_parent T.F__law_parent.kp (b_lpar T) .nil pass0 (pa_cons (pv 1) (pa_cons (pv 4) pa_nil))) (fun _ _ => rfl)) (pe_ix ix_list (pv 2) (pv 4) (fun _ _ => rfl)) (nomark _))))) (pss_one ps_break) pss_nil)
          (pss_cons (ps_set (i := 6) nd rfl (Or.inl rfl) (pe_call (ok_lpar T) hr (by rfl) T.m__law_parent T.F__law_parent.kp (b_lpar T) .nil pass0 (pa_cons (pv 1) (pa_cons (pv 4) pa_nil))))
          (pss_cons (ps_asg (pe_tup (pa_cons (pe_ix ix_list (pv 2) (pv 6) (fun _ _ => rfl)) (pa_cons (pe_ix ix_list (pv 2) (pv 4) (fun _ _ => rfl)) pa_nil))) (pg_tup rfl (pgs_cons (pg_sub (pv 2) (pv 4) set_list) (pgs_cons (pg_sub (pv 2) (pv 6) set_list) pgs_nil))))
          (pss_one (ps_set (i := 4) nd rfl (Or.inl rfl) (pv 6)))))))))))
      (pss_one (ps_ret (pv 2)))), ?_⟩
    refine ⟨Nat.zero_le _, fun D hD => ?_⟩
    refine ⟨_, rfl, a, rfl, ⟨_, SqL.of ((Same.up hD) _ _ ha)⟩, for_list (K := K) (a := a) (xs := ks.map V.int) (fun i σ H' => ∃ (ms : List Int) (x3 x4 x5 x6 : Option V), σ = [some (.ref a), some (.int w), some (.ref D), x3, x4, x5, x6] ∧ Acc H D (ms.map V.int) H' ∧ ms.length = i ∧ ∀ z ∈ ms, z ∈ ks)
      ⟨[], none, none, none, none, rfl, Acc.start hD, rfl, fun z hz => (nomatch hz)⟩ (fun i σ H' _ ⟨_, _, _, _, _, _, ac, _⟩ => SqL.of (ac.s _ _ ha)) ?_ ?_⟩
    · rintro i x σ H1 hx ⟨ms, x3, x4, x5, x6, rfl, ac, hml, hmk⟩
      obtain ⟨hi, rfl⟩ := ints_at hx
      refine ⟨_, rfl, .inl ⟨rfl, _, SqL.of ac.a⟩, _, rfl, D, _, _, rfl, rfl, ac.a, small1000 (by rw [List.length_map]; omega), ?_⟩
      have em : ms.map V.int ++ [V.int ks[i]] = (ms ++ [ks[i]]).map V.int := by rw [List.map_append]; rfl
      rw [em]
      have ac1 : Acc H D ((ms ++ [ks[i]]).map V.int) (upd H1 D (.lst ((ms ++ [ks[i]]).map V.int))) := ac.push
      have hml1 : (ms ++ [ks[i]]).length = i + 1 := by rw [List.length_append, hml]; rfl
      have hmk1 : ∀ z ∈ ms ++ [ks[i]], z ∈ ks := fun z hz => by
        rcases List.mem_append.mp hz with h | h
        · exact hmk z h
        · rw [List.mem_singleton.mp h]
          exact List.getElem_mem hi
      generalize ms ++ [ks[i]] = m1 at ac1 hml1 hmk1
      generalize upd H1 D (.lst (m1.map V.int)) = G1 at ac1
      refine ⟨fun σ' H' => σ' = [some (.ref a), some (.int w), some (.ref D), some (.int ks[i]), some (.int (i : Nat)), x5, x6] ∧ H' = G1, ?_, ?_⟩
      · refine ⟨_, rfl, D, _, rfl, .inl (SqL.of ac1.a), _, _, rfl, rfl, ?_, rfl⟩
        show ([some (.ref a), some (.int w), some (.ref D), some (.int ks[i]), some (V.int (((m1.map V.int).length : Nat) - 1 : Int)), x5, x6] : List (Option V)) = _
        rw [List.length_map, hml1, show (((i + 1 : Nat) : Int) - 1) = (i : Int) by omega]
      rintro σ' H' ⟨rfl, rfl⟩
      refine ⟨20, rfl, by decide, by decide, for_range (n := 20) (fun k σ H' => ∃ (ms : List Int) (p : Nat) (x3 x5 x6 : Option V), σ = [some (.ref a), some (.int w), some (.ref D), x3, some (.int p), x5, x6] ∧ Acc H D (ms.map V.int) H' ∧ ms.length = i + 1 ∧ (∀ z ∈ ms, z ∈ ks) ∧ p < i + 1)
        ⟨m1, i, _, _, _, rfl, ac1, hml1, hmk1, by omega⟩ ?_ ?_⟩
      · rintro k σ H2 hk ⟨m2, p, y3, y5, y6, rfl, ac2, hml2, hmk2, hp⟩
        refine ⟨_, rfl, rfl, _, rfl, ?_⟩
        by_cases h0 : p = 0
        · rw [decide_eq_true (show V.int (p : Nat) = V.int 0 by rw [h0]; rfl)]
          refine iteT (iteT ⟨m2, _, _, _, _, rfl, ac2, hml2, hmk2⟩)
        · rw [decide_eq_false (show ¬ V.int (p : Nat) = V.int 0 by intro z; injection z with z; omega)]
          have hlt : (p - 1) / w < p := Nat.lt_of_le_of_lt (Nat.div_le_self _ _) (by omega)
          have hq2 : (p - 1) / w < m2.length := by omega
          have hp2 : p < m2.length := by omega
          refine iteF ⟨_, rfl, _, rfl, _, rfl, w, p, rfl, hw, by omega, D, _, _, _, rfl, rfl, SqL.of ac2.a, at_int hq2, _, rfl, _, rfl, D, _, _, _, rfl, rfl, SqL.of ac2.a, at_int hp2, _, _, rfl, rfl, _, rfl, ite2 (fun _ => ⟨m2, _, _, _, _, rfl, ac2, hml2, hmk2⟩) (fun _ => ?_)⟩
          refine ⟨_, rfl, _, rfl, w, p, rfl, hw, by omega, ?_⟩
          refine ⟨_, rfl, _, rfl, D, _, _, _, rfl, rfl, SqL.of ac2.a, at_int hq2, _, rfl, _, rfl, D, _, _, _, rfl, rfl, SqL.of ac2.a, at_int hp2, by show 2 ≤ sizeLine; decide, fun t ht => ?_⟩
          have ac3 := ac2.same (Same.up (o := .tup [V.int m2[(p - 1) / w], V.int m2[p]]) ht)
          have hset1 : (m2.map V.int).set p (V.int m2[(p - 1) / w]) = (m2.set p m2[(p - 1) / w]).map V.int := (List.map_set ..).symm
          refine ⟨t, _, rfl, SqT.of upd_same, rfl, _, _, rfl, _, rfl, _, rfl, D, _, _, p, rfl, rfl, ac3.a, ixN_nat (by rw [List.length_map]; exact hp2), ?_⟩
          rw [hset1]
          have ac4 : Acc H D ((m2.set p m2[(p - 1) / w]).map V.int) (upd (upd H2 t (.tup [V.int m2[(p - 1) / w], V.int m2[p]])) D (.lst ((m2.set p m2[(p - 1) / w]).map V.int))) := ac3.push
          have hl4 : (m2.set p m2[(p - 1) / w]).length = i + 1 := by rw [List.length_set]; exact hml2
          have hk4 : ∀ z ∈ m2.set p m2[(p - 1) / w], z ∈ ks := set_mem hmk2 (hmk2 _ (List.getElem_mem hq2))
          have hv : m2[p] ∈ ks := hmk2 _ (List.getElem_mem hp2)
          generalize m2.set p m2[(p - 1) / w] = m4 at ac4 hl4 hk4
          have hset2 : (m4.map V.int).set ((p - 1) / w) (V.int m2[p]) = (m4.set ((p - 1) / w) m2[p]).map V.int := (List.map_set ..).symm
          refine ⟨_, _, rfl, _, rfl, _, rfl, D, _, _, (p - 1) / w, rfl, rfl, ac4.a, ixN_nat (by rw [List.length_map]; omega), ?_⟩
          rw [hset2]
          refine ⟨rfl, _, rfl, m4.set ((p - 1) / w) m2[p], (p - 1) / w, _, _, _, rfl, ac4.push, by rw [List.length_set]; exact hl4, set_mem hk4 hv, by omega⟩
      · rintro σ H2 ⟨m2, p, y3, y5, y6, rfl, ac2, hml2, hmk2, hp⟩
        exact ⟨m2, _, _, _, _, rfl, ac2, hml2, hmk2⟩
    · rintro σ H1 ⟨ms, x3, x4, x5, x6, rfl, ac, hml, hmk⟩
      rw [List.length_map] at hml
      exact ⟨_, rfl, q _ D ms ac.s hml hmk hD ac.a⟩
theorem b_lh (T : Tx K mg A) : L2.Binds K A.d__law_heap ["keys", "wide"] [] := T.F__law_heap.binds fun _ _ _ _ _ _ us hl => match us, hl with | [_, _], _ => rfl

end

end Tw

set_option Elab.async false
set_option linter.all false
set_option maxRecDepth 100000
set_option maxHeartbeats 2000000
namespace Tw
open PySem PySem.Spec PyProof.Rows L2
section
variable {P : Program} {w : World} {K : PySem.W.Frag} {mg : Str → Option Value} {base : Heap} {A : Ad}
open SrtO (lexB lexB_iff lexB_no)
/-! ranks are the places 0, 1, .. in some order -/
theorem rank_perm (ns : List Int) : (rankL ns).Perm (List.range ns.length) := by
  have tr : ∀ a b c : Int × Int, (!lexB b a) = true → (!lexB c b) = true → (!lexB c a) = true := fun a b c h1 h2 => by
    have h1 : lexB b a = false := by simpa using h1
    have h2 : lexB c b = false := by simpa using h2
    have x := lexB_no.mp h1
    have y := lexB_no.mp h2
    have z : lexB c a = false := lexB_no.mpr (by omega)
    rw [z]
    rfl
  have tot : ∀ a b : Int × Int, ((!lexB b a) || (!lexB a b)) = true := fun a b => by
    cases h1 : lexB b a with
    | false => rfl
    | true =>
      have x := lexB_iff.mp h1
      have z : lexB a b = false := lexB_no.mpr (by omega)
      rw [z]
      rfl
  have hs := List.pairwise_mergeSort (le := fun a b => !lexB b a) tr tot (prsL ns)
  have hp := List.mergeSort_perm (prsL ns) (fun a b => !lexB b a)
  generalize (prsL ns).mergeSort (fun a b => !lexB b a) = zs at hs hp
  have hs2 : zs.Pairwise (fun x y => lexB y x = false) := hs.imp fun {a b} h => by simpa using h
  have hnd : zs.Nodup := hp.nodup_iff.mpr (prs_nodup ns)
  have hlen : zs.length = ns.length := by
    rw [hp.length_eq]
    unfold prsL
    rw [List.length_map, List.length_range]
  have e1 : rankL ns = (prsL ns).map fun z => zs.countP fun y => lexB y z := by
    unfold rankL
    conv => rhs; unfold prsL
    rw [List.map_map]
    refine List.map_congr_left fun p _ => ?_
    show (prsL ns).countP _ = zs.countP _
    exact (hp.countP_eq _).symm
  have e2 : (zs.map fun z => zs.countP fun y => lexB y z) = List.range zs.length := by
    refine List.ext_getElem (by rw [List.length_map, List.length_range]) fun i h1 h2 => ?_
    rw [List.getElem_map, List.getElem_range]
    have hi : i < zs.length := by rw [List.length_map] at h1; exact h1
    obtain ⟨j, j1, j2, j3⟩ := idx_cnt zs[i] zs hs2 hnd (List.getElem_mem hi)
    rw [← j3]
    obtain ⟨hj, j1'⟩ := List.getElem?_eq_some_iff.mp j1
    have ne := List.pairwise_iff_getElem.mp hnd
    rcases Nat.lt_trichotomy j i with h | h | h
    · exact absurd j1' (ne j i hj hi h)
    · exact h
    · exact absurd (List.getElem?_eq_getElem hi) (j2 i h)
  rw [e1, ← hlen, ← e2]
  exact (hp.symm.map _)
/-- the ranks as the law counts them -/
def lessN (ns : List Int) (v : Int) : Nat := (ns.filter fun z => decide (z < v)).length
def sameN (ns : List Int) (p : Nat) (v : Int) : Nat := ((ns.take p).filter fun z => decide (z = v)).length
theorem prs_fst (ns : List Int) : (prsL ns).map (·.1) = ns := by
  refine List.ext_getElem? fun i => ?_
  rw [List.getElem?_map]
  by_cases h : i < ns.length
  · rw [prs_at ns i h, List.getElem?_eq_getElem h]
    rfl
  · have h1 : (prsL ns)[i]? = none := List.getElem?_eq_none (by unfold prsL; rw [List.length_map, List.length_range]; omega)
    rw [h1, List.getElem?_eq_none (by omega)]
    rfl
theorem prs_snd (ns : List Int) (i : Nat) (z : Int × Int) (h : (prsL ns)[i]? = some z) : z.2 = (i : Int) := by
  by_cases hi : i < ns.length
  · rw [prs_at ns i hi] at h
    rw [← Option.some.inj h]
  · have h1 : (prsL ns)[i]? = none := List.getElem?_eq_none (by unfold prsL; rw [List.length_map, List.length_range]; omega)
    rw [h1] at h
    cases h
theorem lex_split (v p : Int) : ∀ l : List (Int × Int), (l.countP fun z => lexB z (v, p)) = (l.countP fun z => decide (z.1 < v)) + l.countP fun z => decide (z.1 = v) && decide (z.2 < p)
  | [] => rfl
  | z :: l => by
    have ih := lex_split v p l
    rw [List.countP_cons, List.countP_cons, List.countP_cons, ih]
    by_cases h1 : z.1 < v
    · have e : lexB z (v, p) = true := lexB_iff.mpr (.inl h1)
      have h2 : ¬ z.1 = v := by omega
      simp [e, h1, h2]
      omega
    · by_cases h2 : z.1 = v
      · by_cases h3 : z.2 < p
        · have e : lexB z (v, p) = true := lexB_iff.mpr (.inr ⟨h2, h3⟩)
          simp [e, h1, h2, h3]
          omega
        · have e : lexB z (v, p) = false := lexB_no.mpr (by simp only; omega)
          simp [e, h1, h2, h3]
      · have e : lexB z (v, p) = false := lexB_no.mpr (by simp only; omega)
        simp [e, h1, h2]
theorem due_rank (ns : List Int) (p : Nat) (v : Int) (hv : ns.getD p 0 = v) : lessN ns v + sameN ns p v = rankN ns p := by
  unfold rankN
  rw [hv, lex_split]
  congr 1
  · unfold lessN
    rw [← List.countP_eq_length_filter]
    conv => lhs; rw [← prs_fst ns]
    rw [List.countP_map]
    rfl
  · unfold sameN
    rw [← List.countP_eq_length_filter]
    have e0 : ns.take p = ((prsL ns).take p).map (·.1) := by rw [List.map_take, prs_fst]
    rw [e0, List.countP_map]
    conv => rhs; rw [← List.take_append_drop p (prsL ns)]
    rw [List.countP_append]
    have z0 : ((prsL ns).drop p).countP (fun z => decide (z.1 = v) && decide (z.2 < (p : Int))) = 0 := by
      refine List.countP_eq_zero.mpr fun z hz => ?_
      obtain ⟨i, hi⟩ := List.mem_iff_getElem?.mp hz
      rw [List.getElem?_drop] at hi
      have := prs_snd ns _ z hi
      have h : ¬ z.2 < (p : Int) := by omega
      simp [h]
    rw [z0, Nat.add_zero]
    refine List.countP_congr fun z hz => ?_
    obtain ⟨i, hi⟩ := List.mem_iff_getElem?.mp hz
    have hip : i < p := by
      have := (List.getElem?_eq_some_iff.mp hi).1
      rw [List.length_take] at this
      omega
    rw [List.getElem?_take_of_lt hip] at hi
    have := prs_snd ns _ z hi
    have h : z.2 < (p : Int) := by omega
    simp [h]
/-! walks and slices of a list or a tuple: the sorted ranks -/
theorem ranks_sorted (ns : List Int) {ms : List Int} (hp : ms.Perm ((rankL ns).map fun (i : Nat) => (i : Int))) (hs : ms.Pairwise (· ≤ ·)) : ms = (List.range ns.length).map fun (i : Nat) => (i : Int) := by
  refine List.Perm.eq_of_pairwise (fun x y _ _ h1 h2 => Int.le_antisymm h1 h2) hs ?_ (hp.trans ((rank_perm ns).map _))
  refine List.pairwise_map.mpr (List.Pairwise.imp (fun {a b} h => ?_) (List.pairwise_lt_range (n := ns.length)))
  omega

end

end Tw

set_option Elab.async false
set_option linter.all false
set_option maxRecDepth 100000
set_option maxHeartbeats 2000000
namespace Tw
open PySem PySem.Spec PyProof.Rows L2
section
variable {P : Program} {w : World} {K : PySem.W.Frag} {mg : Str → Option Value} {base : Heap} {A : Ad}
theorem kb_fal (T : Tx K mg A) : ∃ mv : List Value, KBn K A.d_falls ["row", "arms"] 1 ["arms"] (fun us ws => us ++ (mv ++ ws)) (fun vs zs => vs ++ zs) := by
  obtain ⟨mv, h⟩ := T.F_falls.kbinds0 (ps := ["row", "arms"]) 1 ["arms"] [] (fun us mv ws => us ++ (mv ++ ws)) (by simp) (by simp) (fun r1 r2 r3 => r1.append (r2.append r3))
    (fun D doc pm an cdv ct us mv ws h1 h2 h3 => by
      match us, mv, ws, h1, h2, h3 with
      | [a], [], [c], _, _, _ => rfl)
  exact ⟨mv, h⟩
theorem kb_ish (T : Tx K mg A) : ∃ mv : List Value, KBn K A.d_is_heap ["row", "arms"] 1 ["arms"] (fun us ws => us ++ (mv ++ ws)) (fun vs zs => vs ++ zs) := by
  obtain ⟨mv, h⟩ := T.F_is_heap.kbinds0 (ps := ["row", "arms"]) 1 ["arms"] [] (fun us mv ws => us ++ (mv ++ ws)) (by simp) (by simp) (fun r1 r2 r3 => r1.append (r2.append r3))
    (fun D doc pm an cdv ct us mv ws h1 h2 h3 => by
      match us, mv, ws, h1, h2, h3 with
      | [a], [], [c], _, _, _ => rfl)
  exact ⟨mv, h⟩
theorem bd_ish (T : Tx K mg A) : ∃ ds, Vals [V.int 2] ds ∧ L2.Binds K A.d_is_heap ["row", "arms"] ds := by
  refine T.F_is_heap.binds0 1 (by simp) rfl (fun D doc pm an cdv ct us ks h1 h2 => ?_)
  match us, ks, h1, h2 with
  | [a], [c], _, _ => exact ⟨_, _, _, _, _, _, rfl, rfl, rfl⟩
open SrtO (lexB lexB_iff lexB_no)
theorem wrong_eq (ns : List Int) (w : Nat) : ((List.range (ns.length - 1)).filterMap fun k => if faultB ns w (k + 1) = true then some (V.int ((k + 1 : Nat) : Int)) else none) = vi (faultL ns w) := by
  unfold faultL
  rw [filt_pick]
  have h0 : faultB ns w 0 = false := by unfold faultB; rw [decide_eq_false (by omega), Bool.false_and]
  cases e : ns.length with
  | zero => rfl
  | succ m =>
    rw [List.range_succ_eq_map, List.filterMap_cons, h0, if_neg Bool.false_ne_true, List.filterMap_map]
    rfl
theorem PrsAt.app {H : Hp} : ∀ {xs ys : List V} {ps qs : List (Int × Int)}, PrsAt H xs ps → PrsAt H ys qs → PrsAt H (xs ++ ys) (ps ++ qs)
  | _, _, _, _, .nil, h => h
  | _, _, _, _, .cons a b, h => .cons a (PrsAt.app b h)
theorem pickI_len (l : List Int) (b : Int → Bool) : (l.filterMap fun z => if b z = true then some (V.int z) else none).length = (l.filter b).length := by
  induction l with
  | nil => rfl
  | cons a l ih =>
    by_cases h : b a = true
    · rw [List.filterMap_cons, if_pos h, List.filter_cons_of_pos h, List.length_cons, List.length_cons, ih]
    · rw [List.filterMap_cons, if_neg h, List.filter_cons_of_neg h, ih]
theorem cut_take (xs : List V) (p : Nat) (h : p ≤ xs.length) : cutV xs none (some (p : Int)) = xs.take p := by
  unfold cutV
  rw [HT.sIx_none, HT.sIx_nat, List.drop_zero, Nat.sub_zero, Nat.min_eq_left h]
theorem sameV (v : V) : (!decide (v = v)) = false := by rw [decide_eq_true rfl]; rfl
theorem dp_tup (K : PySem.W.Frag) {H : Hp} {p : Addr} {l : List Nat} (h : H p = some (.tup (vi l))) : Dp K H (.ref p) (.tuple (dl l)) := .tup (SqT.of h) (vi_dp _ _ _)
theorem dp_lst (K : PySem.W.Frag) {H : Hp} {p : Addr} {l : List Nat} (h : H p = some (.lst (vi l))) : Dp K H (.ref p) (.list (dl l)) := .lst (SqL.of h) (vi_dp _ _ _)
theorem dl_emp (l : List Nat) : PyData.eqv (.list (dl l)) (.list []) = decide (l = []) := by
  cases l with
  | nil => rfl
  | cons a l => rfl
theorem prs_emp (l : List (Int × Int)) : PyData.eqv (.list (l.map prP)) (.list []) = decide (l = []) := by
  cases l with
  | nil => rfl
  | cons a l => rfl
def spRR : Sp := fun vs H Q _ => ∃ (a w : Nat) (ns : List Int), vs = [.ref a, .int w] ∧ (1 ≤ w ∧ w ≤ 4) ∧ RowIn H a ns ∧ ∀ H', Same H H' → Q (.bl true) H'
theorem ok_rr (T : Tx K mg A) : FnOk P w K mg base CX0 9 A.f__law_row_right A.d__law_row_right ["row", "wide"] spRR := by
  obtain ⟨mf, kf⟩ := kb_fau T
  obtain ⟨ml, kl⟩ := kb_fal T
  obtain ⟨mi, ki⟩ := kb_ish T
  refine T.F__law_row_right.ok sc__law_row_right (fun vs H Q E h => ?_) (fun cdv B outer s H vs Q E hr h => ?_)
  · obtain ⟨a, w, ns, rfl, _⟩ := h
    rfl
  · obtain ⟨a, w, ns, rfl, hw, hrow, q⟩ := h
    have nd := sc__law_row_right.nd
    have hu := hr.units
    have hlen := hrow.2.1
    rcases id hrow.1 with ha | ha
    · refine ⟨_, C8.pss_cut (ps_setLc (i := 3) (own := [("place", 2)]) (g := gName 2) rfl nd rfl rfl (sw_true rfl rfl rfl (by decide +kernel)) (pi_range2 rfl T.g_range (pa_cons pe_int (pa_cons (pe_callB call_len_seq (by rfl) T.g_len PySem.boot_len (pa_cons (pv 0) pa_nil)) pa_nil)))
          (blkOk_by (own := [("place", 2)]) (N := ["row", "wide", "place", "wrong", "pairs", "due", "key", "less", "other", "one"]) (sc := defScope s__law_row_right) (by decide +kernel)) (fun _ _ _ _ _ => pg_name (i := 2) nd rfl (Or.inl rfl))
          (fun _ _ _ _ _ => pts_one (pt_cmpR op_lt (pe_ix (r := rIx K) ix_seq (pv 0) (pv 2) (fun _ _ => rfl)) (pe_ix (r := rIx K) ix_seq (pv 0) (pe_call (ok_lpar T) (hr.mono (by decide)) (by rfl) T.m__law_parent T.F__law_parent.kp (b_lpar T) .nil pass0 (pa_cons (pv 1) (pa_cons (pv 2) pa_nil))) (fun _ _ => rfl)) (nomark _)))
          (fun _ _ _ _ _ => pv 2))
        (pss_cons (ps_set (i := 4) nd rfl (Or.inl rfl) (pe_lst pa_nil))
        (C8.pss_cut (ps_for PassesOwn.never rfl (pi_range1 rfl T.g_range (pa_cons (pe_callB call_len_seq (by rfl) T.g_len PySem.boot_len (pa_cons (pv 0) pa_nil)) pa_nil)) (pg_name (i := 2) nd rfl (Or.inr rfl))
          (pss_one (ps_set (i := 4) nd rfl (Or.inl rfl) (pe_op op_cat (pv 4) (pe_lc (own := [("other", 8)]) (g := gName 8) rfl nd
            (pi_list (pe_call (ok_lsub T) (hr.mono (by decide)) (by rfl) T.m__law_subtree T.F__law_subtree.kp (b_lsub T) .nil pass0 (pa_cons (pv 1) (pa_cons (pe_callB call_len_seq (by rfl) T.g_len PySem.boot_len (pa_cons (pv 0) pa_nil)) (pa_cons (pv 2) pa_nil)))))
            (blkOk_by (own := [("other", 8)]) (N := ["row", "wide", "place", "wrong", "pairs", "due", "key", "less", "other", "one"]) (sc := defScope s__law_row_right) (by decide +kernel)) (fun _ _ _ _ _ => pg_name (i := 8) nd rfl (Or.inl rfl))
            (fun _ _ _ _ _ => pts_one (pt_cmpR op_lt (pe_ix (r := rIx K) ix_seq (pv 0) (pv 8) (fun _ _ => rfl)) (pe_ix (r := rIx K) ix_seq (pv 0) (pv 2) (fun _ _ => rfl)) (nomark _)))
            (fun _ _ _ _ _ => pe_tup (pa_cons (pv 2) (pa_cons (pv 8) pa_nil))))))))
        (pss_cons (ps_if (PW.pt (pw_or (pt_cmpR (op_neD hu) (pe_callN (ok_fau T) (hr.mono (by decide)) (by rfl) T.m_faults T.F_faults.kp kf pass0 (pa_cons (pv 0) pa_nil) (pk_cons (pv 1) pk_nil)) (pv 3) (nomark _))
            (pw_or1 (pt_cmpR (op_neD hu) (pe_callN (ok_fal T) (hr.mono (by decide)) (by rfl) T.m_falls T.F_falls.kp kl pass0 (pa_cons (pv 0) pa_nil) (pk_cons (pv 1) pk_nil)) (pv 4) (nomark _))))) (pss_one (ps_ret pe_bl)) pss_nil)
        (pss_cons (ps_set (i := 5) nd rfl (Or.inl rfl) (pe_lst pa_nil))
        (C8.pss_cut (ps_for PassesOwn.never rfl (pi_enS (by rfl) T.g_enumerate (pa_cons (pv 0) pa_nil)) (pg_tup rfl (pgs_cons (pg_name (i := 2) nd rfl (Or.inr rfl)) (pgs_cons (pg_name (i := 6) nd rfl (Or.inr rfl)) pgs_nil)))
          (pss_cons (ps_set (i := 7) nd rfl (Or.inl rfl) (pe_callB call_len_seq (by rfl) T.g_len PySem.boot_len (pa_cons (pe_lc (own := [("one", 9)]) (g := gName 9) rfl nd (pi_list (pv 0))
              (blkOk_by (own := [("one", 9)]) (N := ["row", "wide", "place", "wrong", "pairs", "due", "key", "less", "other", "one"]) (sc := defScope s__law_row_right) (by decide +kernel)) (fun _ _ _ _ _ => pg_name (i := 9) nd rfl (Or.inl rfl)) (fun _ _ _ _ _ => pts_one (pt_cmpR op_lt (pv 9) (pv 6) (nomark _))) (fun _ _ _ _ _ => pv 9)) pa_nil)))
          (pss_one (ps_expr (pe_bm PySem.F.plainAttrs_list PySem.F.slot_list_append PySem.F.type_list_append mt_append (pv 5) (pa_cons (pe_op op_add (pv 7) (pe_callB call_len_seq (by rfl) T.g_len PySem.boot_len (pa_cons (pe_lc (own := [("one", 9)]) (g := gName 9) rfl nd (pi_list (pe_slice sl_list (pv 0) po_none (po_some (pv 2))))
              (blkOk_by (own := [("one", 9)]) (N := ["row", "wide", "place", "wrong", "pairs", "due", "key", "less", "other", "one"]) (sc := defScope s__law_row_right) (by decide +kernel)) (fun _ _ _ _ _ => pg_name (i := 9) nd rfl (Or.inl rfl)) (fun _ _ _ _ _ => pts_one (pt_cmpR op_eq (pv 9) (pv 6) (nomark _))) (fun _ _ _ _ _ => pv 9)) pa_nil))) pa_nil))))))
        (pss_cons (ps_if (pt_cmpR op_ne (pe_callN (ok_ish T) hr (by rfl) T.m_is_heap T.F_is_heap.kp ki pass0 (pa_cons (pv 0) pa_nil) (pk_cons (pv 1) pk_nil)) (pe_call (ok_lis T) (hr.mono (by decide)) (by rfl) T.m__law_is_heap T.F__law_is_heap.kp (b_lis T) .nil pass0 (pa_cons (pv 0) (pa_cons (pv 1) pa_nil))) (nomark _)) (pss_one (ps_ret pe_bl)) pss_nil)
        (pss_cons (ps_if (pt_cmpR op_ne (pe_cmpR (op_eqD hu) (pv 3) (pe_lst pa_nil) (nomark _)) (pe_cmpR (op_eqD hu) (pv 4) (pe_lst pa_nil) (nomark _)) (nomark _)) (pss_one (ps_ret pe_bl)) pss_nil)
        (pss_one (ps_ret (pe_and (pe_cmpR (op_eqD hu) (pe_call (ok_ran T) (hr.mono (by decide)) (by rfl) T.m_ranks T.F_ranks.kp (b_ran T) .nil pass0 (pa_cons (pv 0) pa_nil)) (pe_callTy call_tuple_of (by rfl) T.g_tuple (by decide +kernel) (pa_cons (pv 5) pa_nil)) (nomark _))
          (pe_one (pe_cmpR (op_eqD hu) (pe_callB cr_sorted (by rfl) T.g_sorted (by decide +kernel) (pa_cons (pv 5) pa_nil)) (pe_listRg rfl (by rfl) T.g_list (prg_1 (by rfl) T.g_range (pe_callB call_len_seq (by rfl) T.g_len PySem.boot_len (pa_cons (pv 0) pa_nil)))) (nomark _))))))))))))), ?_⟩
      have hml : (ns.map V.int).length = ns.length := List.length_map ..
      -- wrong
      refine ⟨fun σ H' => ∃ D1, σ = [some (.ref a), some (.int w), none, some (.ref D1), none, none, none, none, none, none] ∧ Same H H' ∧ H' D1 = some (.lst (vi (faultL ns w))), ?_, ?_⟩
      · refine ⟨_, rfl, a, _, rfl, hrow.1.len, _, _, rfl, ⟨by decide, by decide, by omega, by omega⟩, fun D hD => ?_⟩
        rw [show (((ns.map V.int).length : Int) - 1).toNat = ns.length - 1 by omega]
        refine lc_it (walk_range (lo := 1) (n := ns.length - 1)) (PickI H D (List.range (ns.length - 1)) fun k => if faultB ns w (k + 1) = true then some (V.int ((k + 1 : Nat) : Int)) else none) (pick_start hD) (fun k H' _ h => trivial) ?_ ?_
        · rintro k x H2 H3 hk pk ⟨rfl, ex⟩
          have ex2 : x = V.int ((k + 1 : Nat) : Int) := ex.trans (by show V.int (1 + (k : Int)) = _; rw [show (1 + (k : Int)) = ((k + 1 : Nat) : Int) by omega])
          subst ex2
          have hk' : k < (List.range (ns.length - 1)).length := by rw [List.length_range]; exact hk
          have hr3 := hrow.1.same pk.s
          have hpl : (k + 1 - 1) / w < ns.length := Nat.lt_of_le_of_lt (Nat.div_le_self _ _) (by omega)
          refine ⟨rfl, _, rfl, _, rfl, ix_sq hr3 (by omega) ⟨_, rfl, _, rfl, _, rfl, w, k + 1, rfl, hw, by omega, ix_sq hr3 hpl ⟨_, _, rfl, rfl, _, rfl, ?_⟩⟩⟩
          have ef : faultB ns w (k + 1) = decide (ns.getD (k + 1) 0 < ns.getD ((k + 1 - 1) / w) 0) := by unfold faultB; rw [decide_eq_true (by omega : 0 < k + 1), Bool.true_and]
          by_cases hf : ns.getD (k + 1) 0 < ns.getD ((k + 1 - 1) / w) 0
          · rw [decide_eq_true hf] at ef ⊢
            exact iteT ⟨_, rfl, pick_yes hk' (by rw [List.length_range]; omega) (by rw [List.getElem_range, ef]; rfl) (Same.refl _) pk⟩
          · rw [decide_eq_false hf] at ef ⊢
            exact iteF (pick_no hk' (by rw [List.getElem_range, ef]; rfl) (Same.refl _) pk)
        · intro H2 pk
          have ac := pick_end (by rw [List.length_range]) pk
          rw [wrong_eq] at ac
          exact ⟨D, rfl, ac.s, ac.a⟩
      rintro σ H1 ⟨D1, rfl, s1, hD1⟩
      -- pairs
      refine ⟨Nat.zero_le _, fun Dq hDq => ?_⟩
      have hrow1 : RowIn H1 a ns := hrow.same s1
      refine ⟨fun σ H' => ∃ Dp xs z2, σ = [some (.ref a), some (.int w), z2, some (.ref D1), some (.ref Dp), none, none, none, none, none] ∧ Same H1 H' ∧ H' Dp = some (.lst xs) ∧ PrsAt H' xs (fallN ns w ns.length), ?_, ?_⟩
      · refine ⟨_, rfl, a, _, rfl, (hrow1.1.same (Same.up hDq)).len, _, rfl, by omega, by omega, ?_⟩
        rw [Int.toNat_natCast, List.length_map]
        refine for_range (n := ns.length) (fun k σ H' => ∃ Dp xs z2, σ = [some (.ref a), some (.int w), z2, some (.ref D1), some (.ref Dp), none, none, none, none, none] ∧ Same H1 H' ∧ H' Dp = some (.lst xs) ∧ PrsAt H' xs (fallN ns w k)) ⟨Dq, [], none, rfl, Same.up hDq, upd_same, .nil⟩ ?_ ?_
        · rintro k σ H' hk ⟨Dp, xs, z2, rfl, s2, hDp, hxs⟩
          have z0 : V.int ((0 : Int) + (k : Nat)) = V.int (k : Nat) := by rw [Int.zero_add]
          rw [z0]
          have hrow2 := hrow1.same s2
          refine ⟨_, rfl, _, rfl, _, rfl, a, _, rfl, hrow2.1.len, _, rfl, w, ns.length, k, by rw [List.length_map]; rfl, hw, hlen, hk, fun H3 b s3 b0 hb => ?_⟩
          refine ⟨b, rfl, ⟨_, SqL.of hb⟩, fun D hD => ?_⟩
          have hsub := sub_n ns.length w k
          have hfn := fallN_len ns w hlen k
          refine lc_it (walk_list (xs := vi (subL ns.length w k))) (fun j H' => AccP H3 D (fallR ns k ((subL ns.length w k).take j)) H') (AccP.start hD) (fun j H' _ h => SqL.of (h.s _ _ hb)) ?_ ?_
          · rintro j x H5 H6 hj ac5 ⟨rfl, ex⟩
            obtain ⟨hj', rfl⟩ := map_at ex
            have hj2 : (subL ns.length w k)[j] < ns.length := List.mem_range.mp (List.mem_filter.mp (List.getElem_mem hj')).1
            have hrow5 := (hrow2.1.same s3).same ac5.s
            refine ⟨rfl, _, rfl, _, rfl, ix_sq hrow5 hj2 ⟨_, rfl, _, rfl, ix_sq hrow5 hk ⟨_, _, rfl, rfl, _, rfl, ?_⟩⟩⟩
            have et := fallR_take ns k (subL ns.length w k) j hj'
            have hfr := fallR_len ns k ((subL ns.length w k).take j)
            have htk : ((subL ns.length w k).take j).length ≤ 12 := by rw [List.length_take]; omega
            by_cases hf : ns.getD (subL ns.length w k)[j] 0 < ns.getD k 0
            · rw [decide_eq_true hf]
              rw [if_pos hf] at et
              refine iteT ⟨_, rfl, _, rfl, by show 2 ≤ sizeLine; decide, fun t ht => ?_⟩
              have ac6 := ac5.same (Same.up (o := .tup [V.int (k : Nat), V.int ((subL ns.length w k)[j] : Nat)]) ht)
              obtain ⟨acc, e1, e2, e3⟩ := ac6.push (x := .ref t) (p := ((k : Int), (((subL ns.length w k)[j] : Nat) : Int))) ⟨t, rfl, upd_same⟩ (by omega)
              refine ⟨acc, e1, e2, ?_⟩
              rw [et]
              exact e3
            · rw [decide_eq_false hf]
              rw [if_neg hf, List.append_nil] at et
              refine iteF ?_
              rw [et]
              exact ac5
          · intro H5 ac5
            rw [vi_len, List.take_length] at ac5
            obtain ⟨ys, e1, e2⟩ := ac5.a
            have s25 := s3.trans ac5.s
            have hfr := fallR_len ns k (subL ns.length w k)
            have hDp5 := s25 _ _ hDp
            have hxs5 := hxs.same s25
            refine ⟨_, _, _, _, rfl, rfl, hDp5, e1, Nat.le_of_lt (small1000 (by rw [hxs.length, e2.length]; omega)), fun p hp => ?_⟩
            refine ⟨p, xs ++ ys, _, rfl, s2.trans (s25.trans (Same.up hp)), upd_same, ?_⟩
            rw [fallN_succ]
            exact (hxs5.app e2).same (Same.up hp)
        · rintro σ H' ⟨Dp, xs, z2, rfl, s2, hDp, hxs⟩
          exact ⟨Dp, xs, z2, rfl, s2, hDp, hxs⟩
      rintro σ H2 ⟨Dp, xs, z2, rfl, s2, hDp, hxs⟩
      -- faults, falls
      have hrow2 := hrow1.same s2
      have hD12 := s2 _ _ hD1
      refine ⟨_, rfl, _, rfl, rfl, rfl, a, w, ns, rfl, hw, hrow2, fun H3 f s3 f0 hf => ?_⟩
      refine ⟨_, rfl, _, _, dp_lst _ hf, dp_lst _ (s3 _ _ hD12), dl_shapedL _, dl_shapedL _, _, rfl, ?_⟩
      rw [refl_of (dl_shapedL _)]
      refine iteF ?_
      refine ⟨_, rfl, _, rfl, rfl, rfl, a, w, ns, rfl, hw, hrow2.same s3, fun H4 g xs4 s4 g0 hg hxs4 => ?_⟩
      have s24 := s3.trans s4
      have hDp4 := s24 _ _ hDp
      have hp4 := hxs.same s24
      refine ⟨_, rfl, _, _, .lst (SqL.of hg) (prPs_dp _ hxs4), .lst (SqL.of hDp4) (prPs_dp _ hp4), prPs_shaped _, prPs_shaped _, _, rfl, ?_⟩
      rw [refl_of (prPs_shaped _)]
      refine iteF ?_
      -- due
      have hrow4 := hrow2.same s24
      have ha4 := (s1.trans (s2.trans s24)) _ _ ha
      refine ⟨Nat.zero_le _, fun Du hDu => ?_⟩
      refine ⟨fun σ H' => ∃ x2 x6 x7, σ = [some (.ref a), some (.int w), x2, some (.ref D1), some (.ref Dp), some (.ref Du), x6, x7, none, none] ∧ Acc H4 Du (vi (rankL ns)) H', ?_, ?_⟩
      · refine ⟨_, rfl, a, ns.map V.int, rfl, .inl ⟨SqL.of ((Same.up hDu) _ _ ha4), for_it (walk_enum (xs := ns.map V.int)) (fun i σ H' => ∃ x2 x6 x7, σ = [some (.ref a), some (.int w), x2, some (.ref D1), some (.ref Dp), some (.ref Du), x6, x7, none, none] ∧ Acc H4 Du (vi ((rankL ns).take i)) H')
          ⟨_, none, none, rfl, Acc.start hDu⟩ (fun i σ H' _ ⟨_, _, _, _, ac⟩ => SqL.of (ac.s _ _ ha4)) ?_ ?_⟩⟩
        · rintro k v σ H5 H6 hk ⟨x2, x6, x7, rfl, ac⟩ ⟨T', x, y, rfl, hT, rfl, e1, e2⟩
          obtain ⟨hk', rfl⟩ := ints_at e2
          cases e1
          have ac6 := ac.same (Same.up (o := .tup [V.int (k : Nat), V.int ns[k]]) hT)
          have ht6 : upd H5 T' (.tup [V.int (k : Nat), V.int ns[k]]) T' = some (.tup [V.int (k : Nat), V.int ns[k]]) := upd_same
          generalize upd H5 T' (.tup [V.int (k : Nat), V.int ns[k]]) = G6 at ac6 ht6
          refine ⟨_, _, rfl, SqT.of ht6, rfl, _, _, rfl, _, _, rfl, rfl, ?_⟩
          have ha6 := ac6.s _ _ ha4
          refine ⟨_, rfl, a, rfl, ⟨_, SqL.of ha6⟩, fun D hD => ?_⟩
          refine lc_it (walk_list (xs := ns.map V.int)) (PickI G6 D ns fun z => if decide (z < ns[k]) = true then some (V.int z) else none) (pick_start hD) (fun j H' _ h => SqL.of (h.s _ _ ha6)) ?_ ?_
          · rintro j x H7 H8 hj pk ⟨rfl, ex⟩
            obtain ⟨hj', rfl⟩ := map_at ex
            refine ⟨rfl, _, rfl, _, rfl, _, _, rfl, rfl, _, rfl, ?_⟩
            by_cases hf : ns[j] < ns[k]
            · rw [decide_eq_true hf]
              exact iteT ⟨_, rfl, pick_yes hj' (by omega) (by rw [decide_eq_true hf]; rfl) (Same.refl _) pk⟩
            · rw [decide_eq_false hf]
              exact iteF (pick_no hj' (by rw [decide_eq_false hf]; rfl) (Same.refl _) pk)
          · intro H7 pk
            have aL := pick_end hml pk
            refine ⟨D, _, rfl, .inl (SqL.of aL.a), ?_⟩
            rw [pickI_len]
            have ac7 := ac6.same aL.s
            have ha7 := aL.s _ _ ha6
            refine ⟨_, rfl, .inl ⟨rfl, _, SqL.of ac7.a⟩, _, rfl, _, rfl, _, rfl, _, rfl, a, _, rfl, SqL.of ha7,  fun p2 hp2 => ?_⟩
            have ecut : cutV (ns.map V.int) none (some (k : Int)) = (ns.take k).map V.int := by rw [cut_take _ _ (by omega), List.map_take]
            rw [ecut]
            have ac8 := ac7.same (Same.up (o := .lst ((ns.take k).map V.int)) hp2)
            have hp8 : upd H7 p2 (.lst ((ns.take k).map V.int)) p2 = some (.lst ((ns.take k).map V.int)) := upd_same
            generalize upd H7 p2 (.lst ((ns.take k).map V.int)) = G8 at ac8 hp8
            refine ⟨p2, rfl, ⟨_, SqL.of hp8⟩, fun D2 hD2 => ?_⟩
            have htl : (ns.take k).length ≤ 12 := by rw [List.length_take]; omega
            refine lc_it (walk_list (xs := (ns.take k).map V.int)) (PickI G8 D2 (ns.take k) fun z => if decide (z = ns[k]) = true then some (V.int z) else none) (pick_start hD2) (fun j H' _ h => SqL.of (h.s _ _ hp8)) ?_ ?_
            · rintro j x H9 H10 hj pk2 ⟨rfl, ex⟩
              obtain ⟨hj', rfl⟩ := map_at ex
              refine ⟨rfl, _, rfl, _, rfl, rfl, _, rfl, ?_⟩
              by_cases hf : (ns.take k)[j] = ns[k]
              · rw [decide_eq_true (show V.int (ns.take k)[j] = V.int ns[k] by rw [hf])]
                exact iteT ⟨_, rfl, pick_yes hj' (by omega) (by rw [decide_eq_true hf]; rfl) (Same.refl _) pk2⟩
              · rw [decide_eq_false (show ¬ V.int (ns.take k)[j] = V.int ns[k] from fun z => hf (by injection z))]
                exact iteF (pick_no hj' (by rw [decide_eq_false hf]; rfl) (Same.refl _) pk2)
            · intro H9 pk2
              have aM := pick_end (List.length_map ..) pk2
              refine ⟨D2, _, rfl, .inl (SqL.of aM.a), ?_⟩
              rw [pickI_len]
              have ac9 := ac8.same aM.s
              have hrl : (rankL ns).length = ns.length := by unfold rankL; rw [List.length_map, List.length_range]
              refine ⟨_, _, rfl, rfl, Du, _, _, rfl, rfl, ac9.a, small1000 (by rw [vi_len, List.length_take]; omega), ?_⟩
              refine ⟨_, _, _, rfl, ?_⟩
              have hkr : k < (rankL ns).length := by omega
              have ev : ((lessN ns ns[k] : Nat) : Int) + ((sameN ns k ns[k] : Nat) : Int) = ((rankL ns)[k] : Nat) := by
                have hg : ns.getD k 0 = ns[k] := by rw [List.getD_eq_getElem?_getD, List.getElem?_eq_getElem hk']; rfl
                have h := due_rank ns k ns[k] hg
                have h2 : (rankL ns)[k] = rankN ns k := by
                  have e : (rankL ns)[k]? = some (rankN ns k) := by unfold rankL; rw [List.getElem?_map, List.getElem?_range hk']; rfl
                  exact (List.getElem?_eq_some_iff.mp e).2
                rw [h2, ← h]
                exact (Int.natCast_add _ _).symm
              have el : vi ((rankL ns).take k) ++ [V.int (((lessN ns ns[k] : Nat) : Int) + ((sameN ns k ns[k] : Nat) : Int))] = vi ((rankL ns).take (k + 1)) := by
                rw [ev, List.take_succ_eq_append_getElem hkr, vi_app]
                rfl
              show Acc H4 Du (vi ((rankL ns).take (k + 1))) (upd H9 Du (.lst (vi ((rankL ns).take k) ++ [V.int (((lessN ns ns[k] : Nat) : Int) + ((sameN ns k ns[k] : Nat) : Int))])))
              rw [el]
              exact ac9.push
        · rintro σ H5 ⟨x2, x6, x7, rfl, ac⟩
          have hrl : (ns.map V.int).length = (rankL ns).length := by rw [hml]; unfold rankL; rw [List.length_map, List.length_range]
          rw [hrl, List.take_length] at ac
          exact ⟨x2, x6, x7, rfl, ac⟩
      rintro σ H5 ⟨x2, x6, x7, rfl, ac⟩
      -- is_heap
      have hrow5 := hrow4.same ac.s
      have hD15 := (s24.trans ac.s) _ _ hD12
      have hDp5 := (s24.trans ac.s) _ _ hDp
      have hxs5 := hxs.same (s24.trans ac.s)
      refine ⟨_, rfl, _, rfl, rfl, rfl, a, w, ns, rfl, hw, hrow5, fun H6 s6 => ⟨_, rfl, _, rfl, a, w, ns, rfl, hw, hrow5.same s6, fun H7 s7 => ⟨rfl, _, rfl, ?_⟩⟩⟩
      rw [lheap_fault ns w hw hlen, sameV]
      refine iteF ?_
      have s57 := s6.trans s7
      -- no faults, no fallen pairs
      refine ⟨_, rfl, Nat.zero_le _, fun e1 he1 => ⟨_, _, dp_lst _ ((s57.trans (Same.up he1)) _ _ hD15), .lst (SqL.of upd_same) .nil, dl_shapedL _, rfl, ?_⟩⟩
      have s8 := s57.trans (Same.up (o := .lst []) he1)
      refine ⟨_, rfl, Nat.zero_le _, fun e2 he2 => ⟨_, _, .lst (SqL.of ((s8.trans (Same.up he2)) _ _ hDp5)) (prPs_dp _ (hxs5.same (s8.trans (Same.up he2)))), .lst (SqL.of upd_same) .nil, prPs_shaped _, rfl, rfl, _, rfl, ?_⟩⟩
      rw [dl_emp, prs_emp, fall_fault ns w hw hlen, sameV]
      refine iteF ?_
      have s9 := s8.trans (Same.up (o := .lst []) he2)
      generalize upd (upd H7 e1 (.lst [])) e2 (.lst []) = G9 at s9
      -- ranks
      refine ⟨_, rfl, a, ns, rfl, hrow5.same s9, fun H10 r s10 hr10 => ?_⟩
      have du10 := s10 _ _ (s9 _ _ ac.a)
      refine ⟨_, rfl, Du, _, rfl, .inl ⟨SqL.of du10, fun t ht => ⟨_, _, dp_tup _ ((Same.up ht) _ _ hr10), dp_tup _ upd_same, dl_shaped _, dl_shaped _, _, rfl, ?_⟩⟩⟩
      rw [refl_of (dl_shaped _)]
      have s11 := s9.trans (s10.trans (Same.up (o := .tup (vi (rankL ns))) ht))
      have du11 := (Same.up (o := .tup (vi (rankL ns))) ht) _ _ du10
      generalize upd H10 t (.tup (vi (rankL ns))) = G11 at s11 du11
      have hrl : (rankL ns).length = ns.length := by unfold rankL; rw [List.length_map, List.length_range]
      rw [vi_ints] at du11
      refine iteT ⟨_, rfl, Du, _, rfl, SqL.of du11, by rw [List.length_map]; omega, fun ms p hperm hsrt hp => ?_⟩
      obtain rfl := ranks_sorted ns hperm hsrt
      have s12 := s11.trans (Same.up (o := .lst (((List.range ns.length).map fun (i : Nat) => (i : Int)).map V.int)) hp)
      have hp12 : upd G11 p (.lst (((List.range ns.length).map fun (i : Nat) => (i : Int)).map V.int)) p = some (.lst (((List.range ns.length).map fun (i : Nat) => (i : Int)).map V.int)) := upd_same
      generalize upd G11 p (.lst (((List.range ns.length).map fun (i : Nat) => (i : Int)).map V.int)) = G12 at s12 hp12
      rw [← vi_ints] at hp12
      refine ⟨_, rfl, a, _, rfl, (hrow5.1.same s12).len, _, rfl, RgOk.of_le (by omega) (by omega) (by omega) (by omega), fun r2 hr2 => ?_⟩
      have e3 : upd G12 r2 (.lst (rgV 0 ((ns.map V.int).length : Nat))) r2 = some (.lst (vi (List.range ns.length))) := by rw [upd_same, rg_pl, hml]; rfl
      refine ⟨_, _, dp_lst _ ((Same.up hr2) _ _ hp12), dp_lst _ e3, dl_shapedL _, dl_shapedL _, ?_⟩
      rw [refl_of (dl_shapedL _)]
      exact q _ ((s1.trans (s2.trans (s24.trans ac.s))).trans (s12.trans (Same.up hr2)))
    · refine ⟨_, C8.pss_cut (ps_setLc (i := 3) (own := [("place", 2)]) (g := gName 2) rfl nd rfl rfl (sw_true rfl rfl rfl (by decide +kernel)) (pi_range2 rfl T.g_range (pa_cons pe_int (pa_cons (pe_callB call_len_seq (by rfl) T.g_len PySem.boot_len (pa_cons (pv 0) pa_nil)) pa_nil)))
          (blkOk_by (own := [("place", 2)]) (N := ["row", "wide", "place", "wrong", "pairs", "due", "key", "less", "other", "one"]) (sc := defScope s__law_row_right) (by decide +kernel)) (fun _ _ _ _ _ => pg_name (i := 2) nd rfl (Or.inl rfl))
          (fun _ _ _ _ _ => pts_one (pt_cmpR op_lt (pe_ix (r := rIx K) ix_seq (pv 0) (pv 2) (fun _ _ => rfl)) (pe_ix (r := rIx K) ix_seq (pv 0) (pe_call (ok_lpar T) (hr.mono (by decide)) (by rfl) T.m__law_parent T.F__law_parent.kp (b_lpar T) .nil pass0 (pa_cons (pv 1) (pa_cons (pv 2) pa_nil))) (fun _ _ => rfl)) (nomark _)))
          (fun _ _ _ _ _ => pv 2))
        (pss_cons (ps_set (i := 4) nd rfl (Or.inl rfl) (pe_lst pa_nil))
        (C8.pss_cut (ps_for PassesOwn.never rfl (pi_range1 rfl T.g_range (pa_cons (pe_callB call_len_seq (by rfl) T.g_len PySem.boot_len (pa_cons (pv 0) pa_nil)) pa_nil)) (pg_name (i := 2) nd rfl (Or.inr rfl))
          (pss_one (ps_set (i := 4) nd rfl (Or.inl rfl) (pe_op op_cat (pv 4) (pe_lc (own := [("other", 8)]) (g := gName 8) rfl nd
            (pi_list (pe_call (ok_lsub T) (hr.mono (by decide)) (by rfl) T.m__law_subtree T.F__law_subtree.kp (b_lsub T) .nil pass0 (pa_cons (pv 1) (pa_cons (pe_callB call_len_seq (by rfl) T.g_len PySem.boot_len (pa_cons (pv 0) pa_nil)) (pa_cons (pv 2) pa_nil)))))
            (blkOk_by (own := [("other", 8)]) (N := ["row", "wide", "place", "wrong", "pairs", "due", "key", "less", "other", "one"]) (sc := defScope s__law_row_right) (by decide +kernel)) (fun _ _ _ _ _ => pg_name (i := 8) nd rfl (Or.inl rfl))
            (fun _ _ _ _ _ => pts_one (pt_cmpR op_lt (pe_ix (r := rIx K) ix_seq (pv 0) (pv 8) (fun _ _ => rfl)) (pe_ix (r := rIx K) ix_seq (pv 0) (pv 2) (fun _ _ => rfl)) (nomark _)))
            (fun _ _ _ _ _ => pe_tup (pa_cons (pv 2) (pa_cons (pv 8) pa_nil))))))))
        (pss_cons (ps_if (PW.pt (pw_or (pt_cmpR (op_neD hu) (pe_callN (ok_fau T) (hr.mono (by decide)) (by rfl) T.m_faults T.F_faults.kp kf pass0 (pa_cons (pv 0) pa_nil) (pk_cons (pv 1) pk_nil)) (pv 3) (nomark _))
            (pw_or1 (pt_cmpR (op_neD hu) (pe_callN (ok_fal T) (hr.mono (by decide)) (by rfl) T.m_falls T.F_falls.kp kl pass0 (pa_cons (pv 0) pa_nil) (pk_cons (pv 1) pk_nil)) (pv 4) (nomark _))))) (pss_one (ps_ret pe_bl)) pss_nil)
        (pss_cons (ps_set (i := 5) nd rfl (Or.inl rfl) (pe_lst pa_nil))
        (C8.pss_cut (ps_for PassesOwn.never rfl (pi_enS (by rfl) T.g_enumerate (pa_cons (pv 0) pa_nil)) (pg_tup rfl (pgs_cons (pg_name (i := 2) nd rfl (Or.inr rfl)) (pgs_cons (pg_name (i := 6) nd rfl (Or.inr rfl)) pgs_nil)))
          (pss_cons (ps_set (i := 7) nd rfl (Or.inl rfl) (pe_callB call_len_seq (by rfl) T.g_len PySem.boot_len (pa_cons (pe_lc (own := [("one", 9)]) (g := gName 9) rfl nd (pi_tup (pv 0))
              (blkOk_by (own := [("one", 9)]) (N := ["row", "wide", "place", "wrong", "pairs", "due", "key", "less", "other", "one"]) (sc := defScope s__law_row_right) (by decide +kernel)) (fun _ _ _ _ _ => pg_name (i := 9) nd rfl (Or.inl rfl)) (fun _ _ _ _ _ => pts_one (pt_cmpR op_lt (pv 9) (pv 6) (nomark _))) (fun _ _ _ _ _ => pv 9)) pa_nil)))
          (pss_one (ps_expr (pe_bm PySem.F.plainAttrs_list PySem.F.slot_list_append PySem.F.type_list_append mt_append (pv 5) (pa_cons (pe_op op_add (pv 7) (pe_callB call_len_seq (by rfl) T.g_len PySem.boot_len (pa_cons (pe_lc (own := [("one", 9)]) (g := gName 9) rfl nd (pi_tup (pe_slice sl_tup (pv 0) po_none (po_some (pv 2))))
              (blkOk_by (own := [("one", 9)]) (N := ["row", "wide", "place", "wrong", "pairs", "due", "key", "less", "other", "one"]) (sc := defScope s__law_row_right) (by decide +kernel)) (fun _ _ _ _ _ => pg_name (i := 9) nd rfl (Or.inl rfl)) (fun _ _ _ _ _ => pts_one (pt_cmpR op_eq (pv 9) (pv 6) (nomark _))) (fun _ _ _ _ _ => pv 9)) pa_nil))) pa_nil))))))
        (pss_cons (ps_if (pt_cmpR op_ne (pe_callN (ok_ish T) hr (by rfl) T.m_is_heap T.F_is_heap.kp ki pass0 (pa_cons (pv 0) pa_nil) (pk_cons (pv 1) pk_nil)) (pe_call (ok_lis T) (hr.mono (by decide)) (by rfl) T.m__law_is_heap T.F__law_is_heap.kp (b_lis T) .nil pass0 (pa_cons (pv 0) (pa_cons (pv 1) pa_nil))) (nomark _)) (pss_one (ps_ret pe_bl)) pss_nil)
        (pss_cons (ps_if (pt_cmpR op_ne (pe_cmpR (op_eqD hu) (pv 3) (pe_lst pa_nil) (nomark _)) (pe_cmpR (op_eqD hu) (pv 4) (pe_lst pa_nil) (nomark _)) (nomark _)) (pss_one (ps_ret pe_bl)) pss_nil)
        (pss_one (ps_ret (pe_and (pe_cmpR (op_eqD hu) (pe_call (ok_ran T) (hr.mono (by decide)) (by rfl) T.m_ranks T.F_ranks.kp (b_ran T) .nil pass0 (pa_cons (pv 0) pa_nil)) (pe_callTy call_tuple_of (by rfl) T.g_tuple (by decide +kernel) (pa_cons (pv 5) pa_nil)) (nomark _))
          (pe_one (pe_cmpR (op_eqD hu) (pe_callB cr_sorted (by rfl) T.g_sorted (by decide +kernel) (pa_cons (pv 5) pa_nil)) (pe_listRg rfl (by rfl) T.g_list (prg_1 (by rfl) T.g_range (pe_callB call_len_seq (by rfl) T.g_len PySem.boot_len (pa_cons (pv 0) pa_nil)))) (nomark _))))))))))))), ?_⟩
      have hml : (ns.map V.int).length = ns.length := List.length_map ..
      -- wrong
      refine ⟨fun σ H' => ∃ D1, σ = [some (.ref a), some (.int w), none, some (.ref D1), none, none, none, none, none, none] ∧ Same H H' ∧ H' D1 = some (.lst (vi (faultL ns w))), ?_, ?_⟩
      · refine ⟨_, rfl, a, _, rfl, hrow.1.len, _, _, rfl, ⟨by decide, by decide, by omega, by omega⟩, fun D hD => ?_⟩
        rw [show (((ns.map V.int).length : Int) - 1).toNat = ns.length - 1 by omega]
        refine lc_it (walk_range (lo := 1) (n := ns.length - 1)) (PickI H D (List.range (ns.length - 1)) fun k => if faultB ns w (k + 1) = true then some (V.int ((k + 1 : Nat) : Int)) else none) (pick_start hD) (fun k H' _ h => trivial) ?_ ?_
        · rintro k x H2 H3 hk pk ⟨rfl, ex⟩
          have ex2 : x = V.int ((k + 1 : Nat) : Int) := ex.trans (by show V.int (1 + (k : Int)) = _; rw [show (1 + (k : Int)) = ((k + 1 : Nat) : Int) by omega])
          subst ex2
          have hk' : k < (List.range (ns.length - 1)).length := by rw [List.length_range]; exact hk
          have hr3 := hrow.1.same pk.s
          have hpl : (k + 1 - 1) / w < ns.length := Nat.lt_of_le_of_lt (Nat.div_le_self _ _) (by omega)
          refine ⟨rfl, _, rfl, _, rfl, ix_sq hr3 (by omega) ⟨_, rfl, _, rfl, _, rfl, w, k + 1, rfl, hw, by omega, ix_sq hr3 hpl ⟨_, _, rfl, rfl, _, rfl, ?_⟩⟩⟩
          have ef : faultB ns w (k + 1) = decide (ns.getD (k + 1) 0 < ns.getD ((k + 1 - 1) / w) 0) := by unfold faultB; rw [decide_eq_true (by omega : 0 < k + 1), Bool.true_and]
          by_cases hf : ns.getD (k + 1) 0 < ns.getD ((k + 1 - 1) / w) 0
          · rw [decide_eq_true hf] at ef ⊢
            exact iteT ⟨_, rfl, pick_yes hk' (by rw [List.length_range]; omega) (by rw [List.getElem_range, ef]; rfl) (Same.refl _) pk⟩
          · rw [decide_eq_false hf] at ef ⊢
            exact iteF (pick_no hk' (by rw [List.getElem_range, ef]; rfl) (Same.refl _) pk)
        · intro H2 pk
          have ac := pick_end (by rw [List.length_range]) pk
          rw [wrong_eq] at ac
          exact ⟨D, rfl, ac.s, ac.a⟩
      rintro σ H1 ⟨D1, rfl, s1, hD1⟩
      -- pairs
      refine ⟨Nat.zero_le _, fun Dq hDq => ?_⟩
      have hrow1 : RowIn H1 a ns := hrow.same s1
      refine ⟨fun σ H' => ∃ Dp xs z2, σ = [some (.ref a), some (.int w), z2, some (.ref D1), some (.ref Dp), none, none, none, none, none] ∧ Same H1 H' ∧ H' Dp = some (.lst xs) ∧ PrsAt H' xs (fallN ns w ns.length), ?_, ?_⟩
      · refine ⟨_, rfl, a, _, rfl, (hrow1.1.same (Same.up hDq)).len, _, rfl, by omega, by omega, ?_⟩
        rw [Int.toNat_natCast, List.length_map]
        refine for_range (n := ns.length) (fun k σ H' => ∃ Dp xs z2, σ = [some (.ref a), some (.int w), z2, some (.ref D1), some (.ref Dp), none, none, none, none, none] ∧ Same H1 H' ∧ H' Dp = some (.lst xs) ∧ PrsAt H' xs (fallN ns w k)) ⟨Dq, [], none, rfl, Same.up hDq, upd_same, .nil⟩ ?_ ?_
        · rintro k σ H' hk ⟨Dp, xs, z2, rfl, s2, hDp, hxs⟩
          have z0 : V.int ((0 : Int) + (k : Nat)) = V.int (k : Nat) := by rw [Int.zero_add]
          rw [z0]
          have hrow2 := hrow1.same s2
          refine ⟨_, rfl, _, rfl, _, rfl, a, _, rfl, hrow2.1.len, _, rfl, w, ns.length, k, by rw [List.length_map]; rfl, hw, hlen, hk, fun H3 b s3 b0 hb => ?_⟩
          refine ⟨b, rfl, ⟨_, SqL.of hb⟩, fun D hD => ?_⟩
          have hsub := sub_n ns.length w k
          have hfn := fallN_len ns w hlen k
          refine lc_it (walk_list (xs := vi (subL ns.length w k))) (fun j H' => AccP H3 D (fallR ns k ((subL ns.length w k).take j)) H') (AccP.start hD) (fun j H' _ h => SqL.of (h.s _ _ hb)) ?_ ?_
          · rintro j x H5 H6 hj ac5 ⟨rfl, ex⟩
            obtain ⟨hj', rfl⟩ := map_at ex
            have hj2 : (subL ns.length w k)[j] < ns.length := List.mem_range.mp (List.mem_filter.mp (List.getElem_mem hj')).1
            have hrow5 := (hrow2.1.same s3).same ac5.s
            refine ⟨rfl, _, rfl, _, rfl, ix_sq hrow5 hj2 ⟨_, rfl, _, rfl, ix_sq hrow5 hk ⟨_, _, rfl, rfl, _, rfl, ?_⟩⟩⟩
            have et := fallR_take ns k (subL ns.length w k) j hj'
            have hfr := fallR_len ns k ((subL ns.length w k).take j)
            have htk : ((subL ns.length w k).take j).length ≤ 12 := by rw [List.length_take]; omega
            by_cases hf : ns.getD (subL ns.length w k)[j] 0 < ns.getD k 0
            · rw [decide_eq_true hf]
              rw [if_pos hf] at et
              refine iteT ⟨_, rfl, _, rfl, by show 2 ≤ sizeLine; decide, fun t ht => ?_⟩
              have ac6 := ac5.same (Same.up (o := .tup [V.int (k : Nat), V.int ((subL ns.length w k)[j] : Nat)]) ht)
              obtain ⟨acc, e1, e2, e3⟩ := ac6.push (x := .ref t) (p := ((k : Int), (((subL ns.length w k)[j] : Nat) : Int))) ⟨t, rfl, upd_same⟩ (by omega)
              refine ⟨acc, e1, e2, ?_⟩
              rw [et]
              exact e3
            · rw [decide_eq_false hf]
              rw [if_neg hf, List.append_nil] at et
              refine iteF ?_
              rw [et]
              exact ac5
          · intro H5 ac5
            rw [vi_len, List.take_length] at ac5
            obtain ⟨ys, e1, e2⟩ := ac5.a
            have s25 := s3.trans ac5.s
            have hfr := fallR_len ns k (subL ns.length w k)
            have hDp5 := s25 _ _ hDp
            have hxs5 := hxs.same s25
            refine ⟨_, _, _, _, rfl, rfl, hDp5, e1, Nat.le_of_lt (small1000 (by rw [hxs.length, e2.length]; omega)), fun p hp => ?_⟩
            refine ⟨p, xs ++ ys, _, rfl, s2.trans (s25.trans (Same.up hp)), upd_same, ?_⟩
            rw [fallN_succ]
            exact (hxs5.app e2).same (Same.up hp)
        · rintro σ H' ⟨Dp, xs, z2, rfl, s2, hDp, hxs⟩
          exact ⟨Dp, xs, z2, rfl, s2, hDp, hxs⟩
      rintro σ H2 ⟨Dp, xs, z2, rfl, s2, hDp, hxs⟩
      -- faults, falls
      have hrow2 := hrow1.same s2
      have hD12 := s2 _ _ hD1
      refine ⟨_, rfl, _, rfl, rfl, rfl, a, w, ns, rfl, hw, hrow2, fun H3 f s3 f0 hf => ?_⟩
      refine ⟨_, rfl, _, _, dp_lst _ hf, dp_lst _ (s3 _ _ hD12), dl_shapedL _, dl_shapedL _, _, rfl, ?_⟩
      rw [refl_of (dl_shapedL _)]
      refine iteF ?_
      refine ⟨_, rfl, _, rfl, rfl, rfl, a, w, ns, rfl, hw, hrow2.same s3, fun H4 g xs4 s4 g0 hg hxs4 => ?_⟩
      have s24 := s3.trans s4
      have hDp4 := s24 _ _ hDp
      have hp4 := hxs.same s24
      refine ⟨_, rfl, _, _, .lst (SqL.of hg) (prPs_dp _ hxs4), .lst (SqL.of hDp4) (prPs_dp _ hp4), prPs_shaped _, prPs_shaped _, _, rfl, ?_⟩
      rw [refl_of (prPs_shaped _)]
      refine iteF ?_
      -- due
      have hrow4 := hrow2.same s24
      have ha4 := (s1.trans (s2.trans s24)) _ _ ha
      refine ⟨Nat.zero_le _, fun Du hDu => ?_⟩
      refine ⟨fun σ H' => ∃ x2 x6 x7, σ = [some (.ref a), some (.int w), x2, some (.ref D1), some (.ref Dp), some (.ref Du), x6, x7, none, none] ∧ Acc H4 Du (vi (rankL ns)) H', ?_, ?_⟩
      · refine ⟨_, rfl, a, ns.map V.int, rfl, .inr ⟨SqT.of ((Same.up hDu) _ _ ha4), for_it (walk_enumT (xs := ns.map V.int)) (fun i σ H' => ∃ x2 x6 x7, σ = [some (.ref a), some (.int w), x2, some (.ref D1), some (.ref Dp), some (.ref Du), x6, x7, none, none] ∧ Acc H4 Du (vi ((rankL ns).take i)) H')
          ⟨_, none, none, rfl, Acc.start hDu⟩ (fun i σ H' _ ⟨_, _, _, _, ac⟩ => SqT.of (ac.s _ _ ha4)) ?_ ?_⟩⟩
        · rintro k v σ H5 H6 hk ⟨x2, x6, x7, rfl, ac⟩ ⟨T', x, y, rfl, hT, rfl, e1, e2⟩
          obtain ⟨hk', rfl⟩ := ints_at e2
          cases e1
          have ac6 := ac.same (Same.up (o := .tup [V.int (k : Nat), V.int ns[k]]) hT)
          have ht6 : upd H5 T' (.tup [V.int (k : Nat), V.int ns[k]]) T' = some (.tup [V.int (k : Nat), V.int ns[k]]) := upd_same
          generalize upd H5 T' (.tup [V.int (k : Nat), V.int ns[k]]) = G6 at ac6 ht6
          refine ⟨_, _, rfl, SqT.of ht6, rfl, _, _, rfl, _, _, rfl, rfl, ?_⟩
          have ha6 := ac6.s _ _ ha4
          refine ⟨_, rfl, a, rfl, ⟨_, SqT.of ha6⟩, fun D hD => ?_⟩
          refine lc_it (walk_tup (xs := ns.map V.int)) (PickI G6 D ns fun z => if decide (z < ns[k]) = true then some (V.int z) else none) (pick_start hD) (fun j H' _ h => SqT.of (h.s _ _ ha6)) ?_ ?_
          · rintro j x H7 H8 hj pk ⟨rfl, ex⟩
            obtain ⟨hj', rfl⟩ := map_at ex
            refine ⟨rfl, _, rfl, _, rfl, _, _, rfl, rfl, _, rfl, ?_⟩
            by_cases hf : ns[j] < ns[k]
            · rw [decide_eq_true hf]
              exact iteT ⟨_, rfl, pick_yes hj' (by omega) (by rw [decide_eq_true hf]; rfl) (Same.refl _) pk⟩
            · rw [decide_eq_false hf]
              exact iteF (pick_no hj' (by rw [decide_eq_false hf]; rfl) (Same.refl _) pk)
          · intro H7 pk
            have aL := pick_end hml pk
            refine ⟨D, _, rfl, .inl (SqL.of aL.a), ?_⟩
            rw [pickI_len]
            have ac7 := ac6.same aL.s
            have ha7 := aL.s _ _ ha6
            refine ⟨_, rfl, .inl ⟨rfl, _, SqL.of ac7.a⟩, _, rfl, _, rfl, _, rfl, _, rfl, a, _, rfl, SqT.of ha7, (fun z => by have z2 := z.2; rw [HT.sIx_nat, hml] at z2; omega),  fun p2 hp2 => ?_⟩
            have ecut : cutV (ns.map V.int) none (some (k : Int)) = (ns.take k).map V.int := by rw [cut_take _ _ (by omega), List.map_take]
            rw [ecut]
            have ac8 := ac7.same (Same.up (o := .tup ((ns.take k).map V.int)) hp2)
            have hp8 : upd H7 p2 (.tup ((ns.take k).map V.int)) p2 = some (.tup ((ns.take k).map V.int)) := upd_same
            generalize upd H7 p2 (.tup ((ns.take k).map V.int)) = G8 at ac8 hp8
            refine ⟨p2, rfl, ⟨_, SqT.of hp8⟩, fun D2 hD2 => ?_⟩
            have htl : (ns.take k).length ≤ 12 := by rw [List.length_take]; omega
            refine lc_it (walk_tup (xs := (ns.take k).map V.int)) (PickI G8 D2 (ns.take k) fun z => if decide (z = ns[k]) = true then some (V.int z) else none) (pick_start hD2) (fun j H' _ h => SqT.of (h.s _ _ hp8)) ?_ ?_
            · rintro j x H9 H10 hj pk2 ⟨rfl, ex⟩
              obtain ⟨hj', rfl⟩ := map_at ex
              refine ⟨rfl, _, rfl, _, rfl, rfl, _, rfl, ?_⟩
              by_cases hf : (ns.take k)[j] = ns[k]
              · rw [decide_eq_true (show V.int (ns.take k)[j] = V.int ns[k] by rw [hf])]
                exact iteT ⟨_, rfl, pick_yes hj' (by omega) (by rw [decide_eq_true hf]; rfl) (Same.refl _) pk2⟩
              · rw [decide_eq_false (show ¬ V.int (ns.take k)[j] = V.int ns[k] from fun z => hf (by injection z))]
                exact iteF (pick_no hj' (by rw [decide_eq_false hf]; rfl) (Same.refl _) pk2)
            · intro H9 pk2
              have aM := pick_end (List.length_map ..) pk2
              refine ⟨D2, _, rfl, .inl (SqL.of aM.a), ?_⟩
              rw [pickI_len]
              have ac9 := ac8.same aM.s
              have hrl : (rankL ns).length = ns.length := by unfold rankL; rw [List.length_map, List.length_range]
              refine ⟨_, _, rfl, rfl, Du, _, _, rfl, rfl, ac9.a, small1000 (by rw [vi_len, List.length_take]; omega), ?_⟩
              refine ⟨_, _, _, rfl, ?_⟩
              have hkr : k < (rankL ns).length := by omega
              have ev : ((lessN ns ns[k] : Nat) : Int) + ((sameN ns k ns[k] : Nat) : Int) = ((rankL ns)[k] : Nat) := by
                have hg : ns.getD k 0 = ns[k] := by rw [List.getD_eq_getElem?_getD, List.getElem?_eq_getElem hk']; rfl
                have h := due_rank ns k ns[k] hg
                have h2 : (rankL ns)[k] = rankN ns k := by
                  have e : (rankL ns)[k]? = some (rankN ns k) := by unfold rankL; rw [List.getElem?_map, List.getElem?_range hk']; rfl
                  exact (List.getElem?_eq_some_iff.mp e).2
                rw [h2, ← h]
                exact (Int.natCast_add _ _).symm
              have el : vi ((rankL ns).take k) ++ [V.int (((lessN ns ns[k] : Nat) : Int) + ((sameN ns k ns[k] : Nat) : Int))] = vi ((rankL ns).take (k + 1)) := by
                rw [ev, List.take_succ_eq_append_getElem hkr, vi_app]
                rfl
              show Acc H4 Du (vi ((rankL ns).take (k + 1))) (upd H9 Du (.lst (vi ((rankL ns).take k) ++ [V.int (((lessN ns ns[k] : Nat) : Int) + ((sameN ns k ns[k] : Nat) : Int))])))
              rw [el]
              exact ac9.push
        · rintro σ H5 ⟨x2, x6, x7, rfl, ac⟩
          have hrl : (ns.map V.int).length = (rankL ns).length := by rw [hml]; unfold rankL; rw [List.length_map, List.length_range]
          rw [hrl, List.take_length] at ac
          exact ⟨x2, x6, x7, rfl, ac⟩
      rintro σ H5 ⟨x2, x6, x7, rfl, ac⟩
      -- is_heap
      have hrow5 := hrow4.same ac.s
      have hD15 := (s24.trans ac.s) _ _ hD12
      have hDp5 := (s24.trans ac.s) _ _ hDp
      have hxs5 := hxs.same (s24.trans ac.s)
      refine ⟨_, rfl, _, rfl, rfl, rfl, a, w, ns, rfl, hw, hrow5, fun H6 s6 => ⟨_, rfl, _, rfl, a, w, ns, rfl, hw, hrow5.same s6, fun H7 s7 => ⟨rfl, _, rfl, ?_⟩⟩⟩
      rw [lheap_fault ns w hw hlen, sameV]
      refine iteF ?_
      have s57 := s6.trans s7
      -- no faults, no fallen pairs
      refine ⟨_, rfl, Nat.zero_le _, fun e1 he1 => ⟨_, _, dp_lst _ ((s57.trans (Same.up he1)) _ _ hD15), .lst (SqL.of upd_same) .nil, dl_shapedL _, rfl, ?_⟩⟩
      have s8 := s57.trans (Same.up (o := .lst []) he1)
      refine ⟨_, rfl, Nat.zero_le _, fun e2 he2 => ⟨_, _, .lst (SqL.of ((s8.trans (Same.up he2)) _ _ hDp5)) (prPs_dp _ (hxs5.same (s8.trans (Same.up he2)))), .lst (SqL.of upd_same) .nil, prPs_shaped _, rfl, rfl, _, rfl, ?_⟩⟩
      rw [dl_emp, prs_emp, fall_fault ns w hw hlen, sameV]
      refine iteF ?_
      have s9 := s8.trans (Same.up (o := .lst []) he2)
      generalize upd (upd H7 e1 (.lst [])) e2 (.lst []) = G9 at s9
      -- ranks
      refine ⟨_, rfl, a, ns, rfl, hrow5.same s9, fun H10 r s10 hr10 => ?_⟩
      have du10 := s10 _ _ (s9 _ _ ac.a)
      refine ⟨_, rfl, Du, _, rfl, .inl ⟨SqL.of du10, fun t ht => ⟨_, _, dp_tup _ ((Same.up ht) _ _ hr10), dp_tup _ upd_same, dl_shaped _, dl_shaped _, _, rfl, ?_⟩⟩⟩
      rw [refl_of (dl_shaped _)]
      have s11 := s9.trans (s10.trans (Same.up (o := .tup (vi (rankL ns))) ht))
      have du11 := (Same.up (o := .tup (vi (rankL ns))) ht) _ _ du10
      generalize upd H10 t (.tup (vi (rankL ns))) = G11 at s11 du11
      have hrl : (rankL ns).length = ns.length := by unfold rankL; rw [List.length_map, List.length_range]
      rw [vi_ints] at du11
      refine iteT ⟨_, rfl, Du, _, rfl, SqL.of du11, by rw [List.length_map]; omega, fun ms p hperm hsrt hp => ?_⟩
      obtain rfl := ranks_sorted ns hperm hsrt
      have s12 := s11.trans (Same.up (o := .lst (((List.range ns.length).map fun (i : Nat) => (i : Int)).map V.int)) hp)
      have hp12 : upd G11 p (.lst (((List.range ns.length).map fun (i : Nat) => (i : Int)).map V.int)) p = some (.lst (((List.range ns.length).map fun (i : Nat) => (i : Int)).map V.int)) := upd_same
      generalize upd G11 p (.lst (((List.range ns.length).map fun (i : Nat) => (i : Int)).map V.int)) = G12 at s12 hp12
      rw [← vi_ints] at hp12
      refine ⟨_, rfl, a, _, rfl, (hrow5.1.same s12).len, _, rfl, RgOk.of_le (by omega) (by omega) (by omega) (by omega), fun r2 hr2 => ?_⟩
      have e3 : upd G12 r2 (.lst (rgV 0 ((ns.map V.int).length : Nat))) r2 = some (.lst (vi (List.range ns.length))) := by rw [upd_same, rg_pl, hml]; rfl
      refine ⟨_, _, dp_lst _ ((Same.up hr2) _ _ hp12), dp_lst _ e3, dl_shapedL _, dl_shapedL _, ?_⟩
      rw [refl_of (dl_shapedL _)]
      exact q _ ((s1.trans (s2.trans (s24.trans ac.s))).trans (s12.trans (Same.up hr2)))
theorem b_rr (T : Tx K mg A) : L2.Binds K A.d__law_row_right ["row", "wide"] [] := T.F__law_row_right.binds fun _ _ _ _ _ _ us hl => match us, hl with | [_, _], _ => rfl

end

end Tw

set_option Elab.async false
set_option linter.all false
set_option maxRecDepth 100000
set_option maxHeartbeats 2000000
namespace Tw
open PySem PySem.Spec PyProof.Rows L2
section
variable {P : Program} {w : World} {K : PySem.W.Frag} {mg : Str → Option Value} {base : Heap} {A : Ad}
def spLaw (K : PySem.W.Frag) : Sp := fun vs H Q _ => ∃ (a : Addr) (ns : List Int), vs = [.ref a] ∧ SqL K H a (ns.map V.int) ∧ ns.length ≤ 63 ∧ ∀ H', Q (.bl true) H'
theorem ok_law (T : Tx K mg A) : FnOk P w K mg base CX0 10 A.f_law A.d_law ["script"] (spLaw K) := by
  obtain ⟨mf, kf⟩ := kb_fau T
  obtain ⟨df, rf, bf⟩ := bd_fau T
  obtain ⟨di, ri, bi⟩ := bd_ish T
  refine T.F_law.ok sc_law (fun vs H Q E h => ?_) (fun cdv B outer s H vs Q E hr h => ?_)
  · obtain ⟨a, ns, rfl, _⟩ := h
    rfl
  · obtain ⟨a, ns, rfl, ha, hl, q⟩ := h
    have nd := sc_law.nd
    have hu := hr.units
    refine ⟨_, pss_cons (ps_set (i := 1) nd rfl (Or.inl rfl) (pe_lst (pa_cons (pv 0) (pa_cons pe_int pa_nil))))
      (pss_cons (ps_for PassesOwn.never rfl (pi_range1 rfl T.g_range (pa_cons pe_int pa_nil)) (pg_name (i := 2) nd rfl (Or.inl rfl))
        (pss_cons (ps_set (i := 3) nd rfl (Or.inl rfl) (pe_call (ok_arm T) (hr.mono (by decide)) (by rfl) T.m__law_arms T.F__law_arms.kp (b_arm T) .nil pass0 (pa_cons (pv 1) pa_nil)))
        (C8.pss_cut (ps_set (i := 4) nd rfl (Or.inl rfl) (pe_call (ok_keys T) (hr.mono (by decide)) (by rfl) T.m__law_keys T.F__law_keys.kp (b_keys T) .nil pass0 (pa_cons (pv 1) (pa_cons pe_int (pa_cons
            (pe_call (ok_pick T) (hr.mono (by decide)) (by rfl) T.m__law_pick T.F__law_pick.kp (b_pick T) .nil pass0 (pa_cons (pv 1) (pa_cons (pe_lst (pa_cons pe_int (pa_cons pe_int (pa_cons (pe_op op_add (pe_op op_mul pe_int (pe_op op_pow pe_int pe_int)) pe_int) pa_nil)))) pa_nil))) pa_nil)))))
        (C8.pss_cut (ps_for PassesOwn.never rfl (pi_tup (pe_tup (pa_cons (pv 4) (pa_cons (pe_callTy call_tuple_of (by rfl) T.g_tuple (by decide +kernel) (pa_cons (pv 4) pa_nil))
              (pa_cons (pe_call (ok_lh T) (hr.mono (by decide)) (by rfl) T.m__law_heap T.F__law_heap.kp (b_lh T) .nil pass0 (pa_cons (pv 4) (pa_cons (pv 3) pa_nil)))
              (pa_cons (pe_callB cr_sorted (by rfl) T.g_sorted (by decide +kernel) (pa_cons (pv 4) pa_nil)) pa_nil)))))) (pg_name (i := 5) nd rfl (Or.inl rfl))
          (pss_one (ps_if (pt_not (pt_val (pe_call (ok_rr T) hr (by rfl) T.m__law_row_right T.F__law_row_right.kp (b_rr T) .nil pass0 (pa_cons (pv 5) (pa_cons (pv 3) pa_nil))))) (pss_one (ps_ret pe_bl)) pss_nil)))
        (pss_one (ps_if (PW.pt (pw_or (pt_cmpR op_ne (pe_call (ok_ish T) (hr.mono (by decide)) (by rfl) T.m_is_heap T.F_is_heap.kp bi ri pass0 (pa_cons (pv 4) pa_nil)) (pe_call (ok_lis T) (hr.mono (by decide)) (by rfl) T.m__law_is_heap T.F__law_is_heap.kp (b_lis T) .nil pass0 (pa_cons (pv 4) (pa_cons pe_int pa_nil))) (nomark _))
            (pw_or1 (pt_cmpR (op_neD hu) (pe_call (ok_fau T) (hr.mono (by decide)) (by rfl) T.m_faults T.F_faults.kp bf rf pass0 (pa_cons (pv 4) pa_nil)) (pe_callN (ok_fau T) (hr.mono (by decide)) (by rfl) T.m_faults T.F_faults.kp kf pass0 (pa_cons (pv 4) pa_nil) (pk_cons pe_int pk_nil)) (nomark _))))) (pss_one (ps_ret pe_bl)) pss_nil))))))
      (pss_one (ps_ret pe_bl))), ?_⟩
    refine ⟨_, rfl, by show 2 ≤ sizeLine; decide, fun d hd => ?_⟩
    have dr0 : DrAt K _ d a ns 0 := DrAt.start ha hl hd
    refine ⟨4, rfl, by decide, by decide, for_range (n := 4) (fun i σ H' => ∃ k x2 x3 x4 x5, σ = [some (.ref a), some (.ref d), x2, x3, x4, x5] ∧ DrAt K H' d a ns k ∧ k ≤ 20 * i) ⟨0, none, none, none, none, rfl, dr0, by omega⟩ ?_ ?_⟩
    · rintro i σ H1 hi ⟨k, x2, x3, x4, x5, rfl, dr1, hk⟩
      refine ⟨_, rfl, d, a, ns, k, rfl, dr1, by omega, fun H2 w b2 dr2 hw => ?_⟩
      -- keys
      refine ⟨fun σ' H' => ∃ (q4 : Addr) (ks : List Int) (k' : Nat), σ' = [some (.ref a), some (.ref d), some (.int ((0 : Int) + (i : Nat))), some (.int w), some (.ref q4), x5] ∧ DrAt K H' d a ns k' ∧ k' ≤ 20 * (i + 1) ∧ ks.length ≤ 12 ∧ (∀ n ∈ ks, -1000000000 ≤ n ∧ n ≤ 1000000000) ∧ H' q4 = some (.lst (ks.map V.int)), ?_, ?_⟩
      · refine ⟨_, rfl, _, rfl, _, _, rfl, rfl, ⟨by decide, by decide, by decide⟩, _, _, rfl, rfl, .inl ⟨by decide, by decide⟩, _, _, rfl, rfl, by show 3 ≤ sizeLine; decide, fun b hb => ?_⟩
        have hbd : b ≠ d := fun z => by rw [z, dr2.l] at hb; cases hb
        refine ⟨d, a, b, ns, [3, 9, 2 * 10 ^ (9 : Int).toNat + 1], k + 1, rfl, dr2.same (Same.up hb), by omega, upd_same, hbd, by show 0 < 3; decide, fun H3 z b3 dr3 hz => ?_⟩
        have hz2 : 0 < z ∧ z ≤ 2000000001 := by
          rw [show (2 * 10 ^ (9 : Int).toNat + 1 : Int) = 2000000001 by decide] at hz
          simp only [List.mem_cons, List.not_mem_nil, or_false] at hz
          omega
        obtain ⟨sp, rfl⟩ : ∃ sp : Nat, z = (sp : Int) := ⟨z.toNat, by omega⟩
        refine ⟨d, a, ns, k + 1 + 1, 12, sp, rfl, dr3, by omega, by decide, by omega, fun H4 q4 ks k' b4 dr4 hk' hkl hkb q40 hq4 => ?_⟩
        exact ⟨q4, ks, k', rfl, dr4, by omega, hkl, fun n hn => by have := hkb n hn; omega, hq4⟩
      rintro σ' H4 ⟨q4, ks, k', rfl, dr4, hk', hkl, hkb, hq4⟩
      have hrow : RowIn H4 q4 ks := ⟨.inl hq4, hkl, hkb⟩
      refine ⟨fun σ' H' => ∃ y5, σ' = [some (.ref a), some (.ref d), some (.int ((0 : Int) + (i : Nat))), some (.int w), some (.ref q4), y5] ∧ Same H4 H', ?_, ?_⟩
      · refine ⟨_, rfl, _, rfl, q4, _, rfl, .inl ⟨SqL.of hq4, fun t1 ht1 => ?_⟩⟩
        have s1 : Same H4 (upd H4 t1 (.tup (ks.map V.int))) := Same.up ht1
        have e1 : upd H4 t1 (.tup (ks.map V.int)) t1 = some (.tup (ks.map V.int)) := upd_same
        generalize upd H4 t1 (.tup (ks.map V.int)) = G1 at s1 e1
        refine ⟨_, rfl, _, rfl, q4, w, ks, rfl, hw, s1 _ _ hq4, hkl, fun G2 h2 ms s2 hml hmk _ hh2 => ?_⟩
        refine ⟨_, rfl, q4, ks, rfl, SqL.of (s2 _ _ (s1 _ _ hq4)), by omega, fun ss p3 hp3 _ hn3 => ?_⟩
        have s3 : Same G2 (upd G2 p3 (.lst (ss.map V.int))) := Same.up hn3
        have e3 : upd G2 p3 (.lst (ss.map V.int)) p3 = some (.lst (ss.map V.int)) := upd_same
        generalize upd G2 p3 (.lst (ss.map V.int)) = G3 at s3 e3
        have s13 := s1.trans (s2.trans s3)
        have all4 : ∀ x ∈ ([V.ref q4, V.ref t1, V.ref h2, V.ref p3] : List V), ∃ ad ns2, x = V.ref ad ∧ RowIn G3 ad ns2 := by
          intro x hx
          simp only [List.mem_cons, List.not_mem_nil, or_false] at hx
          rcases hx with rfl | rfl | rfl | rfl
          · exact ⟨_, ks, rfl, hrow.same s13⟩
          · exact ⟨_, ks, rfl, .inr ((s2.trans s3) _ _ e1), hkl, hkb⟩
          · exact ⟨_, ms, rfl, .inl (s3 _ _ hh2), by omega, fun n hn => hkb n (hmk n hn)⟩
          · exact ⟨_, ss, rfl, .inl e3, by rw [hp3.length_eq]; exact hkl, fun n hn => hkb n (hp3.mem_iff.mp hn)⟩
        refine ⟨by show 4 ≤ sizeLine; decide, fun t4 ht4 => ⟨t4, rfl, ⟨_, SqT.of upd_same⟩, ?_⟩⟩
        have s4 : Same G3 (upd G3 t4 (.tup [V.ref q4, V.ref t1, V.ref h2, V.ref p3])) := Same.up ht4
        have e4 : upd G3 t4 (.tup [V.ref q4, V.ref t1, V.ref h2, V.ref p3]) t4 = some (.tup [V.ref q4, V.ref t1, V.ref h2, V.ref p3]) := upd_same
        refine for_it (walk_tup (xs := [V.ref q4, V.ref t1, V.ref h2, V.ref p3])) (fun j σ' H' => ∃ y5, σ' = [some (.ref a), some (.ref d), some (.int ((0 : Int) + (i : Nat))), some (.int w), some (.ref q4), y5] ∧ Same G3 H' ∧ H' t4 = some (.tup [V.ref q4, V.ref t1, V.ref h2, V.ref p3]))
          ⟨_, rfl, s4, e4⟩ (fun j σ' H' _ ⟨_, _, _, h⟩ => SqT.of h) ?_ ?_
        · rintro j v σ' G5 G6 hj ⟨y5, rfl, s5, e5⟩ ⟨rfl, ev⟩
          obtain ⟨ad, ns2, rfl, hr2⟩ := all4 v (List.mem_of_getElem? ev)
          refine ⟨_, rfl, _, rfl, ad, w, ns2, rfl, hw, hr2.same s5, fun G7 s7 => ⟨_, rfl, ?_⟩⟩
          exact iteF ⟨_, rfl, s5.trans s7, s7 _ _ e5⟩
        · rintro σ' G5 ⟨y5, rfl, s5, _⟩
          exact ⟨y5, rfl, s13.trans s5⟩
      rintro σ' H5 ⟨y5, rfl, s5⟩
      have hrow5 := hrow.same s5
      refine ⟨_, rfl, q4, 2, ks, rfl, ⟨by decide, by decide⟩, hrow5, fun H6 s6 => ⟨_, rfl, q4, 2, ks, rfl, ⟨by decide, by decide⟩, hrow5.same s6, fun H7 s7 => ⟨rfl, _, rfl, ?_⟩⟩⟩
      rw [lheap_fault ks 2 ⟨by decide, by decide⟩ hkl, sameV]
      refine iteF ?_
      have hrow7 := hrow5.same (s6.trans s7)
      refine ⟨_, rfl, q4, 2, ks, rfl, ⟨by decide, by decide⟩, hrow7, fun H8 f8 s8 _ hf8 => ⟨_, rfl, rfl, rfl, q4, 2, ks, rfl, ⟨by decide, by decide⟩, hrow7.same s8, fun H9 f9 s9 _ hf9 => ?_⟩⟩
      refine ⟨_, _, dp_lst _ (s9 _ _ hf8), dp_lst _ hf9, dl_shapedL _, dl_shapedL _, _, rfl, ?_⟩
      rw [refl_of (dl_shapedL _)]
      exact iteF ⟨k', _, _, _, _, rfl, dr4.same (s5.trans (s6.trans (s7.trans (s8.trans s9)))), hk'⟩
    · rintro σ H1 _
      exact q _

end

end Tw

set_option Elab.async false
set_option linter.all false
set_option maxRecDepth 100000
set_option maxHeartbeats 2000000
namespace Tw
open PySem PySem.Spec PyProof.Rows L2
theorem all_mk {l : PySem.W.OpenLaw} {w : World} {K : PySem.W.Frag} {h : Heap} {mg : Str → Option Value} (X : K.In h) (G : h.Ns mainGlobals mg) {fa C po D_t___init__ D_t_of D_is_heap D_faults D_falls f_is_integer f_is_integer_from f_is_key f_check_arms f_check_many f_check_place f_row_of f_t___init__ f_t_of f_t___iter__ f_t_parent f_t_way_to f_t_subtree f_is_heap f_faults f_falls f_ranks f__law_number f__law_take f__law_pick f__law_parent f__law_way f__law_subtree f__law_arms f__law_keys f__law_is_heap f__law_heap f__law_row_right f_law : Addr} {od_is_integer an_is_integer : Option Addr} {sl_is_integer : Array (Option Value)} {oc_is_integer kV_is_integer dc_is_integer pm_is_integer cd_is_integer ct_is_integer : Value} {od_is_integer_from an_is_integer_from : Option Addr} {sl_is_integer_from : Array (Option Value)} {oc_is_integer_from kV_is_integer_from dc_is_integer_from pm_is_integer_from cd_is_integer_from ct_is_integer_from : Value} {od_is_key an_is_key : Option Addr} {sl_is_key : Array (Option Value)} {oc_is_key kV_is_key dc_is_key pm_is_key cd_is_key ct_is_key : Value} {od_check_arms an_check_arms : Option Addr} {sl_check_arms : Array (Option Value)} {oc_check_arms kV_check_arms dc_check_arms pm_check_arms cd_check_arms ct_check_arms : Value} {od_check_many an_check_many : Option Addr} {sl_check_many : Array (Option Value)} {oc_check_many kV_check_many dc_check_many pm_check_many cd_check_many ct_check_many : Value} {od_check_place an_check_place : Option Addr} {sl_check_place : Array (Option Value)} {oc_check_place kV_check_place dc_check_place pm_check_place cd_check_place ct_check_place : Value} {od_row_of an_row_of : Option Addr} {sl_row_of : Array (Option Value)} {oc_row_of kV_row_of dc_row_of pm_row_of cd_row_of ct_row_of : Value} {od_t___init__ an_t___init__ : Option Addr} {sl_t___init__ : Array (Option Value)} {oc_t___init__  dc_t___init__ pm_t___init__ cd_t___init__ ct_t___init__ : Value} {od_t_of an_t_of : Option Addr} {sl_t_of : Array (Option Value)} {oc_t_of  dc_t_of pm_t_of cd_t_of ct_t_of : Value} {od_t___iter__ an_t___iter__ : Option Addr} {sl_t___iter__ : Array (Option Value)} {oc_t___iter__ kV_t___iter__ dc_t___iter__ pm_t___iter__ cd_t___iter__ ct_t___iter__ : Value} {od_t_parent an_t_parent : Option Addr} {sl_t_parent : Array (Option Value)} {oc_t_parent kV_t_parent dc_t_parent pm_t_parent cd_t_parent ct_t_parent : Value} {od_t_way_to an_t_way_to : Option Addr} {sl_t_way_to : Array (Option Value)} {oc_t_way_to kV_t_way_to dc_t_way_to pm_t_way_to cd_t_way_to ct_t_way_to : Value} {od_t_subtree an_t_subtree : Option Addr} {sl_t_subtree : Array (Option Value)} {oc_t_subtree kV_t_subtree dc_t_subtree pm_t_subtree cd_t_subtree ct_t_subtree : Value} {od_is_heap an_is_heap : Option Addr} {sl_is_heap : Array (Option Value)} {oc_is_heap  dc_is_heap pm_is_heap cd_is_heap ct_is_heap : Value} {od_faults an_faults : Option Addr} {sl_faults : Array (Option Value)} {oc_faults  dc_faults pm_faults cd_faults ct_faults : Value} {od_falls an_falls : Option Addr} {sl_falls : Array (Option Value)} {oc_falls  dc_falls pm_falls cd_falls ct_falls : Value} {od_ranks an_ranks : Option Addr} {sl_ranks : Array (Option Value)} {oc_ranks kV_ranks dc_ranks pm_ranks cd_ranks ct_ranks : Value} {od__law_number an__law_number : Option Addr} {sl__law_number : Array (Option Value)} {oc__law_number kV__law_number dc__law_number pm__law_number cd__law_number ct__law_number : Value} {od__law_take an__law_take : Option Addr} {sl__law_take : Array (Option Value)} {oc__law_take kV__law_take dc__law_take pm__law_take cd__law_take ct__law_take : Value} {od__law_pick an__law_pick : Option Addr} {sl__law_pick : Array (Option Value)} {oc__law_pick kV__law_pick dc__law_pick pm__law_pick cd__law_pick ct__law_pick : Value} {od__law_parent an__law_parent : Option Addr} {sl__law_parent : Array (Option Value)} {oc__law_parent kV__law_parent dc__law_parent pm__law_parent cd__law_parent ct__law_parent : Value} {od__law_way an__law_way : Option Addr} {sl__law_way : Array (Option Value)} {oc__law_way kV__law_way dc__law_way pm__law_way cd__law_way ct__law_way : Value} {od__law_subtree an__law_subtree : Option Addr} {sl__law_subtree : Array (Option Value)} {oc__law_subtree kV__law_subtree dc__law_subtree pm__law_subtree cd__law_subtree ct__law_subtree : Value} {od__law_arms an__law_arms : Option Addr} {sl__law_arms : Array (Option Value)} {oc__law_arms kV__law_arms dc__law_arms pm__law_arms cd__law_arms ct__law_arms : Value} {od__law_keys an__law_keys : Option Addr} {sl__law_keys : Array (Option Value)} {oc__law_keys kV__law_keys dc__law_keys pm__law_keys cd__law_keys ct__law_keys : Value} {od__law_is_heap an__law_is_heap : Option Addr} {sl__law_is_heap : Array (Option Value)} {oc__law_is_heap kV__law_is_heap dc__law_is_heap pm__law_is_heap cd__law_is_heap ct__law_is_heap : Value} {od__law_heap an__law_heap : Option Addr} {sl__law_heap : Array (Option Value)} {oc__law_heap kV__law_heap dc__law_heap pm__law_heap cd__law_heap ct__law_heap : Value} {od__law_row_right an__law_row_right : Option Addr} {sl__law_row_right : Array (Option Value)} {oc__law_row_right kV__law_row_right dc__law_row_right pm__law_row_right cd__law_row_right ct__law_row_right : Value} {od_law an_law : Option Addr} {sl_law : Array (Option Value)} {oc_law kV_law dc_law pm_law cd_law ct_law : Value}
    (hfa : mg "law" = some (.ref fa))
    (aC : PySem.W.nsIn K mainGlobals "Tree" = some (some (.ref C)))
    (a_is_integer : PySem.W.nsIn K mainGlobals "is_integer" = some (some (.ref f_is_integer)))
    (l_is_integer : K.lookup f_is_integer = some ⟨oc_is_integer, od_is_integer, .func (PySem.W.fnOf "is_integer" "is_integer" (defArgs s_is_integer) (defBody s_is_integer) (defScope s_is_integer) .none kV_is_integer dc_is_integer pm_is_integer an_is_integer cd_is_integer ct_is_integer), sl_is_integer⟩)
    (c_is_integer : PySem.W.codeIn K cd_is_integer "is_integer" = true)
    (k_is_integer : PySem.W.keepIn K (.ref f_is_integer) = true)
    (a_is_integer_from : PySem.W.nsIn K mainGlobals "is_integer_from" = some (some (.ref f_is_integer_from)))
    (l_is_integer_from : K.lookup f_is_integer_from = some ⟨oc_is_integer_from, od_is_integer_from, .func (PySem.W.fnOf "is_integer_from" "is_integer_from" (defArgs s_is_integer_from) (defBody s_is_integer_from) (defScope s_is_integer_from) .none kV_is_integer_from dc_is_integer_from pm_is_integer_from an_is_integer_from cd_is_integer_from ct_is_integer_from), sl_is_integer_from⟩)
    (c_is_integer_from : PySem.W.codeIn K cd_is_integer_from "is_integer_from" = true)
    (k_is_integer_from : PySem.W.keepIn K (.ref f_is_integer_from) = true)
    (a_is_key : PySem.W.nsIn K mainGlobals "is_key" = some (some (.ref f_is_key)))
    (l_is_key : K.lookup f_is_key = some ⟨oc_is_key, od_is_key, .func (PySem.W.fnOf "is_key" "is_key" (defArgs s_is_key) (defBody s_is_key) (defScope s_is_key) .none kV_is_key dc_is_key pm_is_key an_is_key cd_is_key ct_is_key), sl_is_key⟩)
    (c_is_key : PySem.W.codeIn K cd_is_key "is_key" = true)
    (k_is_key : PySem.W.keepIn K (.ref f_is_key) = true)
    (a_check_arms : PySem.W.nsIn K mainGlobals "check_arms" = some (some (.ref f_check_arms)))
    (l_check_arms : K.lookup f_check_arms = some ⟨oc_check_arms, od_check_arms, .func (PySem.W.fnOf "check_arms" "check_arms" (defArgs s_check_arms) (defBody s_check_arms) (defScope s_check_arms) .none kV_check_arms dc_check_arms pm_check_arms an_check_arms cd_check_arms ct_check_arms), sl_check_arms⟩)
    (c_check_arms : PySem.W.codeIn K cd_check_arms "check_arms" = true)
    (k_check_arms : PySem.W.keepIn K (.ref f_check_arms) = true)
    (a_check_many : PySem.W.nsIn K mainGlobals "check_many" = some (some (.ref f_check_many)))
    (l_check_many : K.lookup f_check_many = some ⟨oc_check_many, od_check_many, .func (PySem.W.fnOf "check_many" "check_many" (defArgs s_check_many) (defBody s_check_many) (defScope s_check_many) .none kV_check_many dc_check_many pm_check_many an_check_many cd_check_many ct_check_many), sl_check_many⟩)
    (c_check_many : PySem.W.codeIn K cd_check_many "check_many" = true)
    (k_check_many : PySem.W.keepIn K (.ref f_check_many) = true)
    (a_check_place : PySem.W.nsIn K mainGlobals "check_place" = some (some (.ref f_check_place)))
    (l_check_place : K.lookup f_check_place = some ⟨oc_check_place, od_check_place, .func (PySem.W.fnOf "check_place" "check_place" (defArgs s_check_place) (defBody s_check_place) (defScope s_check_place) .none kV_check_place dc_check_place pm_check_place an_check_place cd_check_place ct_check_place), sl_check_place⟩)
    (c_check_place : PySem.W.codeIn K cd_check_place "check_place" = true)
    (k_check_place : PySem.W.keepIn K (.ref f_check_place) = true)
    (a_row_of : PySem.W.nsIn K mainGlobals "row_of" = some (some (.ref f_row_of)))
    (l_row_of : K.lookup f_row_of = some ⟨oc_row_of, od_row_of, .func (PySem.W.fnOf "row_of" "row_of" (defArgs s_row_of) (defBody s_row_of) (defScope s_row_of) .none kV_row_of dc_row_of pm_row_of an_row_of cd_row_of ct_row_of), sl_row_of⟩)
    (c_row_of : PySem.W.codeIn K cd_row_of "row_of" = true)
    (k_row_of : PySem.W.keepIn K (.ref f_row_of) = true)
    (a_t___init__ : PySem.W.findIn K (.ref C) "__init__" = some (some (.ref f_t___init__)))
    (i_t___init__ : PySem.W.isFn K (.ref f_t___init__) = true)
    (l_t___init__ : K.lookup f_t___init__ = some ⟨oc_t___init__, od_t___init__, .func (PySem.W.fnOf "__init__" "Tree.__init__" (defArgs s_t___init__) (defBody s_t___init__) (defScope s_t___init__) .none (.ref D_t___init__) dc_t___init__ pm_t___init__ an_t___init__ cd_t___init__ ct_t___init__), sl_t___init__⟩)
    (c_t___init__ : PySem.W.codeIn K cd_t___init__ "Tree.__init__" = true)
    (k_t___init__ : PySem.W.keepIn K (.ref f_t___init__) = true)
    {tk_t___init__ : Tok}
    (w_t___init__ : PySem.W.nsIn K D_t___init__ "arms" = some (some (.int 2 tk_t___init__)))
    (a_t_of : PySem.W.findCls K (.ref C) (.type "type") "of" = some (.get (.builtin "classmethod.__get__") (.ref po) .none (.ref C)))
    {rest_of : List Value}
    (r_t_of : PySem.W.recIn K po "classmethod" = some (.ref f_t_of :: rest_of))
    (n_t_of : PySem.W.fnIn K f_t_of = true)
    (l_t_of : K.lookup f_t_of = some ⟨oc_t_of, od_t_of, .func (PySem.W.fnOf "of" "Tree.of" (defArgs s_t_of) (defBody s_t_of) (defScope s_t_of) .none (.ref D_t_of) dc_t_of pm_t_of an_t_of cd_t_of ct_t_of), sl_t_of⟩)
    (c_t_of : PySem.W.codeIn K cd_t_of "Tree.of" = true)
    (k_t_of : PySem.W.keepIn K (.ref f_t_of) = true)
    {tk_t_of : Tok}
    (w_t_of : PySem.W.nsIn K D_t_of "arms" = some (some (.int 2 tk_t_of)))
    (a_t___iter__ : PySem.W.findIn K (.ref C) "__iter__" = some (some (.ref f_t___iter__)))
    (i_t___iter__ : PySem.W.isFn K (.ref f_t___iter__) = true)
    (n_t___iter__ : PySem.W.fnIn K f_t___iter__ = true)
    (l_t___iter__ : K.lookup f_t___iter__ = some ⟨oc_t___iter__, od_t___iter__, .func (PySem.W.fnOf "__iter__" "Tree.__iter__" (defArgs s_t___iter__) (defBody s_t___iter__) (defScope s_t___iter__) .none kV_t___iter__ dc_t___iter__ pm_t___iter__ an_t___iter__ cd_t___iter__ ct_t___iter__), sl_t___iter__⟩)
    (c_t___iter__ : PySem.W.codeIn K cd_t___iter__ "Tree.__iter__" = true)
    (k_t___iter__ : PySem.W.keepIn K (.ref f_t___iter__) = true)
    (a_t_parent : PySem.W.findIn K (.ref C) "parent" = some (some (.ref f_t_parent)))
    (i_t_parent : PySem.W.isFn K (.ref f_t_parent) = true)
    (l_t_parent : K.lookup f_t_parent = some ⟨oc_t_parent, od_t_parent, .func (PySem.W.fnOf "parent" "Tree.parent" (defArgs s_t_parent) (defBody s_t_parent) (defScope s_t_parent) .none kV_t_parent dc_t_parent pm_t_parent an_t_parent cd_t_parent ct_t_parent), sl_t_parent⟩)
    (c_t_parent : PySem.W.codeIn K cd_t_parent "Tree.parent" = true)
    (k_t_parent : PySem.W.keepIn K (.ref f_t_parent) = true)
    (a_t_way_to : PySem.W.findIn K (.ref C) "way_to" = some (some (.ref f_t_way_to)))
    (i_t_way_to : PySem.W.isFn K (.ref f_t_way_to) = true)
    (l_t_way_to : K.lookup f_t_way_to = some ⟨oc_t_way_to, od_t_way_to, .func (PySem.W.fnOf "way_to" "Tree.way_to" (defArgs s_t_way_to) (defBody s_t_way_to) (defScope s_t_way_to) .none kV_t_way_to dc_t_way_to pm_t_way_to an_t_way_to cd_t_way_to ct_t_way_to), sl_t_way_to⟩)
    (c_t_way_to : PySem.W.codeIn K cd_t_way_to "Tree.way_to" = true)
    (k_t_way_to : PySem.W.keepIn K (.ref f_t_way_to) = true)
    (a_t_subtree : PySem.W.findIn K (.ref C) "subtree" = some (some (.ref f_t_subtree)))
    (i_t_subtree : PySem.W.isFn K (.ref f_t_subtree) = true)
    (l_t_subtree : K.lookup f_t_subtree = some ⟨oc_t_subtree, od_t_subtree, .func (PySem.W.fnOf "subtree" "Tree.subtree" (defArgs s_t_subtree) (defBody s_t_subtree) (defScope s_t_subtree) .none kV_t_subtree dc_t_subtree pm_t_subtree an_t_subtree cd_t_subtree ct_t_subtree), sl_t_subtree⟩)
    (c_t_subtree : PySem.W.codeIn K cd_t_subtree "Tree.subtree" = true)
    (k_t_subtree : PySem.W.keepIn K (.ref f_t_subtree) = true)
    (a_is_heap : PySem.W.nsIn K mainGlobals "is_heap" = some (some (.ref f_is_heap)))
    (l_is_heap : K.lookup f_is_heap = some ⟨oc_is_heap, od_is_heap, .func (PySem.W.fnOf "is_heap" "is_heap" (defArgs s_is_heap) (defBody s_is_heap) (defScope s_is_heap) .none (.ref D_is_heap) dc_is_heap pm_is_heap an_is_heap cd_is_heap ct_is_heap), sl_is_heap⟩)
    (c_is_heap : PySem.W.codeIn K cd_is_heap "is_heap" = true)
    (k_is_heap : PySem.W.keepIn K (.ref f_is_heap) = true)
    {tk_is_heap : Tok}
    (w_is_heap : PySem.W.nsIn K D_is_heap "arms" = some (some (.int 2 tk_is_heap)))
    (a_faults : PySem.W.nsIn K mainGlobals "faults" = some (some (.ref f_faults)))
    (l_faults : K.lookup f_faults = some ⟨oc_faults, od_faults, .func (PySem.W.fnOf "faults" "faults" (defArgs s_faults) (defBody s_faults) (defScope s_faults) .none (.ref D_faults) dc_faults pm_faults an_faults cd_faults ct_faults), sl_faults⟩)
    (c_faults : PySem.W.codeIn K cd_faults "faults" = true)
    (k_faults : PySem.W.keepIn K (.ref f_faults) = true)
    {tk_faults : Tok}
    (w_faults : PySem.W.nsIn K D_faults "arms" = some (some (.int 2 tk_faults)))
    (a_falls : PySem.W.nsIn K mainGlobals "falls" = some (some (.ref f_falls)))
    (l_falls : K.lookup f_falls = some ⟨oc_falls, od_falls, .func (PySem.W.fnOf "falls" "falls" (defArgs s_falls) (defBody s_falls) (defScope s_falls) .none (.ref D_falls) dc_falls pm_falls an_falls cd_falls ct_falls), sl_falls⟩)
    (c_falls : PySem.W.codeIn K cd_falls "falls" = true)
    (k_falls : PySem.W.keepIn K (.ref f_falls) = true)
    {tk_falls : Tok}
    (w_falls : PySem.W.nsIn K D_falls "arms" = some (some (.int 2 tk_falls)))
    (a_ranks : PySem.W.nsIn K mainGlobals "ranks" = some (some (.ref f_ranks)))
    (l_ranks : K.lookup f_ranks = some ⟨oc_ranks, od_ranks, .func (PySem.W.fnOf "ranks" "ranks" (defArgs s_ranks) (defBody s_ranks) (defScope s_ranks) .none kV_ranks dc_ranks pm_ranks an_ranks cd_ranks ct_ranks), sl_ranks⟩)
    (c_ranks : PySem.W.codeIn K cd_ranks "ranks" = true)
    (k_ranks : PySem.W.keepIn K (.ref f_ranks) = true)
    (a__law_number : PySem.W.nsIn K mainGlobals "_law_number" = some (some (.ref f__law_number)))
    (l__law_number : K.lookup f__law_number = some ⟨oc__law_number, od__law_number, .func (PySem.W.fnOf "_law_number" "_law_number" (defArgs s__law_number) (defBody s__law_number) (defScope s__law_number) .none kV__law_number dc__law_number pm__law_number an__law_number cd__law_number ct__law_number), sl__law_number⟩)
    (c__law_number : PySem.W.codeIn K cd__law_number "_law_number" = true)
    (k__law_number : PySem.W.keepIn K (.ref f__law_number) = true)
    (a__law_take : PySem.W.nsIn K mainGlobals "_law_take" = some (some (.ref f__law_take)))
    (l__law_take : K.lookup f__law_take = some ⟨oc__law_take, od__law_take, .func (PySem.W.fnOf "_law_take" "_law_take" (defArgs s__law_take) (defBody s__law_take) (defScope s__law_take) .none kV__law_take dc__law_take pm__law_take an__law_take cd__law_take ct__law_take), sl__law_take⟩)
    (c__law_take : PySem.W.codeIn K cd__law_take "_law_take" = true)
    (k__law_take : PySem.W.keepIn K (.ref f__law_take) = true)
    (a__law_pick : PySem.W.nsIn K mainGlobals "_law_pick" = some (some (.ref f__law_pick)))
    (l__law_pick : K.lookup f__law_pick = some ⟨oc__law_pick, od__law_pick, .func (PySem.W.fnOf "_law_pick" "_law_pick" (defArgs s__law_pick) (defBody s__law_pick) (defScope s__law_pick) .none kV__law_pick dc__law_pick pm__law_pick an__law_pick cd__law_pick ct__law_pick), sl__law_pick⟩)
    (c__law_pick : PySem.W.codeIn K cd__law_pick "_law_pick" = true)
    (k__law_pick : PySem.W.keepIn K (.ref f__law_pick) = true)
    (a__law_parent : PySem.W.nsIn K mainGlobals "_law_parent" = some (some (.ref f__law_parent)))
    (l__law_parent : K.lookup f__law_parent = some ⟨oc__law_parent, od__law_parent, .func (PySem.W.fnOf "_law_parent" "_law_parent" (defArgs s__law_parent) (defBody s__law_parent) (defScope s__law_parent) .none kV__law_parent dc__law_parent pm__law_parent an__law_parent cd__law_parent ct__law_parent), sl__law_parent⟩)
    (c__law_parent : PySem.W.codeIn K cd__law_parent "_law_parent" = true)
    (k__law_parent : PySem.W.keepIn K (.ref f__law_parent) = true)
    (a__law_way : PySem.W.nsIn K mainGlobals "_law_way" = some (some (.ref f__law_way)))
    (l__law_way : K.lookup f__law_way = some ⟨oc__law_way, od__law_way, .func (PySem.W.fnOf "_law_way" "_law_way" (defArgs s__law_way) (defBody s__law_way) (defScope s__law_way) .none kV__law_way dc__law_way pm__law_way an__law_way cd__law_way ct__law_way), sl__law_way⟩)
    (c__law_way : PySem.W.codeIn K cd__law_way "_law_way" = true)
    (k__law_way : PySem.W.keepIn K (.ref f__law_way) = true)
    (a__law_subtree : PySem.W.nsIn K mainGlobals "_law_subtree" = some (some (.ref f__law_subtree)))
    (l__law_subtree : K.lookup f__law_subtree = some ⟨oc__law_subtree, od__law_subtree, .func (PySem.W.fnOf "_law_subtree" "_law_subtree" (defArgs s__law_subtree) (defBody s__law_subtree) (defScope s__law_subtree) .none kV__law_subtree dc__law_subtree pm__law_subtree an__law_subtree cd__law_subtree ct__law_subtree), sl__law_subtree⟩)
    (c__law_subtree : PySem.W.codeIn K cd__law_subtree "_law_subtree" = true)
    (k__law_subtree : PySem.W.keepIn K (.ref f__law_subtree) = true)
    (a__law_arms : PySem.W.nsIn K mainGlobals "_law_arms" = some (some (.ref f__law_arms)))
    (l__law_arms : K.lookup f__law_arms = some ⟨oc__law_arms, od__law_arms, .func (PySem.W.fnOf "_law_arms" "_law_arms" (defArgs s__law_arms) (defBody s__law_arms) (defScope s__law_arms) .none kV__law_arms dc__law_arms pm__law_arms an__law_arms cd__law_arms ct__law_arms), sl__law_arms⟩)
    (c__law_arms : PySem.W.codeIn K cd__law_arms "_law_arms" = true)
    (k__law_arms : PySem.W.keepIn K (.ref f__law_arms) = true)
    (a__law_keys : PySem.W.nsIn K mainGlobals "_law_keys" = some (some (.ref f__law_keys)))
    (l__law_keys : K.lookup f__law_keys = some ⟨oc__law_keys, od__law_keys, .func (PySem.W.fnOf "_law_keys" "_law_keys" (defArgs s__law_keys) (defBody s__law_keys) (defScope s__law_keys) .none kV__law_keys dc__law_keys pm__law_keys an__law_keys cd__law_keys ct__law_keys), sl__law_keys⟩)
    (c__law_keys : PySem.W.codeIn K cd__law_keys "_law_keys" = true)
    (k__law_keys : PySem.W.keepIn K (.ref f__law_keys) = true)
    (a__law_is_heap : PySem.W.nsIn K mainGlobals "_law_is_heap" = some (some (.ref f__law_is_heap)))
    (l__law_is_heap : K.lookup f__law_is_heap = some ⟨oc__law_is_heap, od__law_is_heap, .func (PySem.W.fnOf "_law_is_heap" "_law_is_heap" (defArgs s__law_is_heap) (defBody s__law_is_heap) (defScope s__law_is_heap) .none kV__law_is_heap dc__law_is_heap pm__law_is_heap an__law_is_heap cd__law_is_heap ct__law_is_heap), sl__law_is_heap⟩)
    (c__law_is_heap : PySem.W.codeIn K cd__law_is_heap "_law_is_heap" = true)
    (k__law_is_heap : PySem.W.keepIn K (.ref f__law_is_heap) = true)
    (a__law_heap : PySem.W.nsIn K mainGlobals "_law_heap" = some (some (.ref f__law_heap)))
    (l__law_heap : K.lookup f__law_heap = some ⟨oc__law_heap, od__law_heap, .func (PySem.W.fnOf "_law_heap" "_law_heap" (defArgs s__law_heap) (defBody s__law_heap) (defScope s__law_heap) .none kV__law_heap dc__law_heap pm__law_heap an__law_heap cd__law_heap ct__law_heap), sl__law_heap⟩)
    (c__law_heap : PySem.W.codeIn K cd__law_heap "_law_heap" = true)
    (k__law_heap : PySem.W.keepIn K (.ref f__law_heap) = true)
    (a__law_row_right : PySem.W.nsIn K mainGlobals "_law_row_right" = some (some (.ref f__law_row_right)))
    (l__law_row_right : K.lookup f__law_row_right = some ⟨oc__law_row_right, od__law_row_right, .func (PySem.W.fnOf "_law_row_right" "_law_row_right" (defArgs s__law_row_right) (defBody s__law_row_right) (defScope s__law_row_right) .none kV__law_row_right dc__law_row_right pm__law_row_right an__law_row_right cd__law_row_right ct__law_row_right), sl__law_row_right⟩)
    (c__law_row_right : PySem.W.codeIn K cd__law_row_right "_law_row_right" = true)
    (k__law_row_right : PySem.W.keepIn K (.ref f__law_row_right) = true)
    (a_law : PySem.W.nsIn K mainGlobals "law" = some (some (.ref f_law)))
    (l_law : K.lookup f_law = some ⟨oc_law, od_law, .func (PySem.W.fnOf "law" "law" (defArgs s_law) (defBody s_law) (defScope s_law) .none kV_law dc_law pm_law an_law cd_law ct_law), sl_law⟩)
    (c_law : PySem.W.codeIn K cd_law "law" = true)
    (k_law : PySem.W.keepIn K (.ref f_law) = true)
    {tc_MOST_ARMS : Tok}
    (q_MOST_ARMS : PySem.W.nsIn K mainGlobals "MOST_ARMS" = some (some (.int 4 tc_MOST_ARMS)))
    {tc_MOST_PLACES : Tok}
    (q_MOST_PLACES : PySem.W.nsIn K mainGlobals "MOST_PLACES" = some (some (.int 12 tc_MOST_PLACES)))
    {tc_GREATEST_KEY : Tok}
    (q_GREATEST_KEY : PySem.W.nsIn K mainGlobals "GREATEST_KEY" = some (some (.int 1000000000 tc_GREATEST_KEY)))
    (z_isinstance : PySem.W.nsIn K mainGlobals "isinstance" = some none)
    (z_int : PySem.W.nsIn K mainGlobals "int" = some none)
    (z_bool : PySem.W.nsIn K mainGlobals "bool" = some none)
    (z_len : PySem.W.nsIn K mainGlobals "len" = some none)
    (z_tuple : PySem.W.nsIn K mainGlobals "tuple" = some none)
    (z_list : PySem.W.nsIn K mainGlobals "list" = some none)
    (z_range : PySem.W.nsIn K mainGlobals "range" = some none)
    (z_enumerate : PySem.W.nsIn K mainGlobals "enumerate" = some none)
    (z_iter : PySem.W.nsIn K mainGlobals "iter" = some none)
    (z_sorted : PySem.W.nsIn K mainGlobals "sorted" = some none)
    (z_sum : PySem.W.nsIn K mainGlobals "sum" = some none)
    (z_any : PySem.W.nsIn K mainGlobals "any" = some none)
    (pg : PySem.W.plainGet K C Str.empty = true)
    (hd : PySem.W.hasDictIn K C = true)
    (po_ : PySem.W.plainOver K C = true)
    (sa : PySem.W.findIn K (.ref C) "__setattr__" = some (some (.builtin "object.__setattr__")))
    (na_nMany : PySem.W.findIn K (.ref C) "many" = some none)
    (na_nArms : PySem.W.findIn K (.ref C) "arms" = some none)
    (na_nPl : PySem.W.findIn K (.ref C) "_places" = some none)
    (mk : PySem.W.makesIn K C = true)
    (kc : PySem.W.keepIn K (.ref C) = true)
    (rd : PySem.W.readsIn K C (.type "type") = true)
    (ga : PySem.W.specialIn K (.ref C) "__getattribute__" = some (some (.builtin "type.__getattribute__")))
    : ∃ fd : FuncData, (∀ (s : Shared) (v : Value), BindsTo s fd ⟨[v], []⟩ [("script", v)]) ∧ ∀ base : Heap, K.In base → base.Ns mainGlobals mg → FnOk l.prog w K mg base CX0 10 fa fd ["script"] (spLaw K) := by
  have e := hfa.symm.trans (PySem.W.mg_of X G a_law)
  cases e
  let A : Ad := { f_is_integer := f_is_integer, d_is_integer := (PySem.W.fnOf "is_integer" "is_integer" (defArgs s_is_integer) (defBody s_is_integer) (defScope s_is_integer) .none kV_is_integer dc_is_integer pm_is_integer an_is_integer cd_is_integer ct_is_integer), f_is_integer_from := f_is_integer_from, d_is_integer_from := (PySem.W.fnOf "is_integer_from" "is_integer_from" (defArgs s_is_integer_from) (defBody s_is_integer_from) (defScope s_is_integer_from) .none kV_is_integer_from dc_is_integer_from pm_is_integer_from an_is_integer_from cd_is_integer_from ct_is_integer_from), f_is_key := f_is_key, d_is_key := (PySem.W.fnOf "is_key" "is_key" (defArgs s_is_key) (defBody s_is_key) (defScope s_is_key) .none kV_is_key dc_is_key pm_is_key an_is_key cd_is_key ct_is_key), f_check_arms := f_check_arms, d_check_arms := (PySem.W.fnOf "check_arms" "check_arms" (defArgs s_check_arms) (defBody s_check_arms) (defScope s_check_arms) .none kV_check_arms dc_check_arms pm_check_arms an_check_arms cd_check_arms ct_check_arms), f_check_many := f_check_many, d_check_many := (PySem.W.fnOf "check_many" "check_many" (defArgs s_check_many) (defBody s_check_many) (defScope s_check_many) .none kV_check_many dc_check_many pm_check_many an_check_many cd_check_many ct_check_many), f_check_place := f_check_place, d_check_place := (PySem.W.fnOf "check_place" "check_place" (defArgs s_check_place) (defBody s_check_place) (defScope s_check_place) .none kV_check_place dc_check_place pm_check_place an_check_place cd_check_place ct_check_place), f_row_of := f_row_of, d_row_of := (PySem.W.fnOf "row_of" "row_of" (defArgs s_row_of) (defBody s_row_of) (defScope s_row_of) .none kV_row_of dc_row_of pm_row_of an_row_of cd_row_of ct_row_of), f_t___init__ := f_t___init__, d_t___init__ := (PySem.W.fnOf "__init__" "Tree.__init__" (defArgs s_t___init__) (defBody s_t___init__) (defScope s_t___init__) .none (.ref D_t___init__) dc_t___init__ pm_t___init__ an_t___init__ cd_t___init__ ct_t___init__), f_t_of := f_t_of, d_t_of := (PySem.W.fnOf "of" "Tree.of" (defArgs s_t_of) (defBody s_t_of) (defScope s_t_of) .none (.ref D_t_of) dc_t_of pm_t_of an_t_of cd_t_of ct_t_of), f_t___iter__ := f_t___iter__, d_t___iter__ := (PySem.W.fnOf "__iter__" "Tree.__iter__" (defArgs s_t___iter__) (defBody s_t___iter__) (defScope s_t___iter__) .none kV_t___iter__ dc_t___iter__ pm_t___iter__ an_t___iter__ cd_t___iter__ ct_t___iter__), f_t_parent := f_t_parent, d_t_parent := (PySem.W.fnOf "parent" "Tree.parent" (defArgs s_t_parent) (defBody s_t_parent) (defScope s_t_parent) .none kV_t_parent dc_t_parent pm_t_parent an_t_parent cd_t_parent ct_t_parent), f_t_way_to := f_t_way_to, d_t_way_to := (PySem.W.fnOf "way_to" "Tree.way_to" (defArgs s_t_way_to) (defBody s_t_way_to) (defScope s_t_way_to) .none kV_t_way_to dc_t_way_to pm_t_way_to an_t_way_to cd_t_way_to ct_t_way_to), f_t_subtree := f_t_subtree, d_t_subtree := (PySem.W.fnOf "subtree" "Tree.subtree" (defArgs s_t_subtree) (defBody s_t_subtree) (defScope s_t_subtree) .none kV_t_subtree dc_t_subtree pm_t_subtree an_t_subtree cd_t_subtree ct_t_subtree), f_is_heap := f_is_heap, d_is_heap := (PySem.W.fnOf "is_heap" "is_heap" (defArgs s_is_heap) (defBody s_is_heap) (defScope s_is_heap) .none (.ref D_is_heap) dc_is_heap pm_is_heap an_is_heap cd_is_heap ct_is_heap), f_faults := f_faults, d_faults := (PySem.W.fnOf "faults" "faults" (defArgs s_faults) (defBody s_faults) (defScope s_faults) .none (.ref D_faults) dc_faults pm_faults an_faults cd_faults ct_faults), f_falls := f_falls, d_falls := (PySem.W.fnOf "falls" "falls" (defArgs s_falls) (defBody s_falls) (defScope s_falls) .none (.ref D_falls) dc_falls pm_falls an_falls cd_falls ct_falls), f_ranks := f_ranks, d_ranks := (PySem.W.fnOf "ranks" "ranks" (defArgs s_ranks) (defBody s_ranks) (defScope s_ranks) .none kV_ranks dc_ranks pm_ranks an_ranks cd_ranks ct_ranks), f__law_number := f__law_number, d__law_number := (PySem.W.fnOf "_law_number" "_law_number" (defArgs s__law_number) (defBody s__law_number) (defScope s__law_number) .none kV__law_number dc__law_number pm__law_number an__law_number cd__law_number ct__law_number), f__law_take := f__law_take, d__law_take := (PySem.W.fnOf "_law_take" "_law_take" (defArgs s__law_take) (defBody s__law_take) (defScope s__law_take) .none kV__law_take dc__law_take pm__law_take an__law_take cd__law_take ct__law_take), f__law_pick := f__law_pick, d__law_pick := (PySem.W.fnOf "_law_pick" "_law_pick" (defArgs s__law_pick) (defBody s__law_pick) (defScope s__law_pick) .none kV__law_pick dc__law_pick pm__law_pick an__law_pick cd__law_pick ct__law_pick), f__law_parent := f__law_parent, d__law_parent := (PySem.W.fnOf "_law_parent" "_law_parent" (defArgs s__law_parent) (defBody s__law_parent) (defScope s__law_parent) .none kV__law_parent dc__law_parent pm__law_parent an__law_parent cd__law_parent ct__law_parent), f__law_way := f__law_way, d__law_way := (PySem.W.fnOf "_law_way" "_law_way" (defArgs s__law_way) (defBody s__law_way) (defScope s__law_way) .none kV__law_way dc__law_way pm__law_way an__law_way cd__law_way ct__law_way), f__law_subtree := f__law_subtree, d__law_subtree := (PySem.W.fnOf "_law_subtree" "_law_subtree" (defArgs s__law_subtree) (defBody s__law_subtree) (defScope s__law_subtree) .none kV__law_subtree dc__law_subtree pm__law_subtree an__law_subtree cd__law_subtree ct__law_subtree), f__law_arms := f__law_arms, d__law_arms := (PySem.W.fnOf "_law_arms" "_law_arms" (defArgs s__law_arms) (defBody s__law_arms) (defScope s__law_arms) .none kV__law_arms dc__law_arms pm__law_arms an__law_arms cd__law_arms ct__law_arms), f__law_keys := f__law_keys, d__law_keys := (PySem.W.fnOf "_law_keys" "_law_keys" (defArgs s__law_keys) (defBody s__law_keys) (defScope s__law_keys) .none kV__law_keys dc__law_keys pm__law_keys an__law_keys cd__law_keys ct__law_keys), f__law_is_heap := f__law_is_heap, d__law_is_heap := (PySem.W.fnOf "_law_is_heap" "_law_is_heap" (defArgs s__law_is_heap) (defBody s__law_is_heap) (defScope s__law_is_heap) .none kV__law_is_heap dc__law_is_heap pm__law_is_heap an__law_is_heap cd__law_is_heap ct__law_is_heap), f__law_heap := f__law_heap, d__law_heap := (PySem.W.fnOf "_law_heap" "_law_heap" (defArgs s__law_heap) (defBody s__law_heap) (defScope s__law_heap) .none kV__law_heap dc__law_heap pm__law_heap an__law_heap cd__law_heap ct__law_heap), f__law_row_right := f__law_row_right, d__law_row_right := (PySem.W.fnOf "_law_row_right" "_law_row_right" (defArgs s__law_row_right) (defBody s__law_row_right) (defScope s__law_row_right) .none kV__law_row_right dc__law_row_right pm__law_row_right an__law_row_right cd__law_row_right ct__law_row_right), f_law := fa, d_law := (PySem.W.fnOf "law" "law" (defArgs s_law) (defBody s_law) (defScope s_law) .none kV_law dc_law pm_law an_law cd_law ct_law), C := C, po := po }
  have T : Tx K mg A := {
    F_is_integer := (fun_mk (st := s_is_integer) l_is_integer c_is_integer k_is_integer)
    m_is_integer := PySem.W.mg_of X G a_is_integer
    F_is_integer_from := (fun_mk (st := s_is_integer_from) l_is_integer_from c_is_integer_from k_is_integer_from)
    m_is_integer_from := PySem.W.mg_of X G a_is_integer_from
    F_is_key := (fun_mk (st := s_is_key) l_is_key c_is_key k_is_key)
    m_is_key := PySem.W.mg_of X G a_is_key
    F_check_arms := (fun_mk (st := s_check_arms) l_check_arms c_check_arms k_check_arms)
    m_check_arms := PySem.W.mg_of X G a_check_arms
    F_check_many := (fun_mk (st := s_check_many) l_check_many c_check_many k_check_many)
    m_check_many := PySem.W.mg_of X G a_check_many
    F_check_place := (fun_mk (st := s_check_place) l_check_place c_check_place k_check_place)
    m_check_place := PySem.W.mg_of X G a_check_place
    F_row_of := (fun_mk (st := s_row_of) l_row_of c_row_of k_row_of)
    m_row_of := PySem.W.mg_of X G a_row_of
    F_t___init__ := ⟨⟨_, _, _, _, _, _, _, _, _, _, rfl, l_t___init__, c_t___init__, .inl ⟨rfl, rfl⟩, .inr ⟨_, rfl, fun q hq => by rw [List.mem_singleton.mp hq]; exact ⟨_, w_t___init__, relI _ _⟩⟩⟩, k_t___init__⟩
    F_t_of := ⟨⟨_, _, _, _, _, _, _, _, _, _, rfl, l_t_of, c_t_of, .inl ⟨rfl, rfl⟩, .inr ⟨_, rfl, fun q hq => by rw [List.mem_singleton.mp hq]; exact ⟨_, w_t_of, relI _ _⟩⟩⟩, k_t_of⟩
    F_t___iter__ := (fun_mk (st := s_t___iter__) l_t___iter__ c_t___iter__ k_t___iter__)
    D_t___iter__ := ⟨a_t___iter__, i_t___iter__, n_t___iter__⟩
    F_t_parent := (fun_mk (st := s_t_parent) l_t_parent c_t_parent k_t_parent)
    M_t_parent := ⟨a_t_parent, i_t_parent, k_t_parent⟩
    F_t_way_to := (fun_mk (st := s_t_way_to) l_t_way_to c_t_way_to k_t_way_to)
    M_t_way_to := ⟨a_t_way_to, i_t_way_to, k_t_way_to⟩
    F_t_subtree := (fun_mk (st := s_t_subtree) l_t_subtree c_t_subtree k_t_subtree)
    M_t_subtree := ⟨a_t_subtree, i_t_subtree, k_t_subtree⟩
    F_is_heap := ⟨⟨_, _, _, _, _, _, _, _, _, _, rfl, l_is_heap, c_is_heap, .inl ⟨rfl, rfl⟩, .inr ⟨_, rfl, fun q hq => by rw [List.mem_singleton.mp hq]; exact ⟨_, w_is_heap, relI _ _⟩⟩⟩, k_is_heap⟩
    m_is_heap := PySem.W.mg_of X G a_is_heap
    F_faults := ⟨⟨_, _, _, _, _, _, _, _, _, _, rfl, l_faults, c_faults, .inl ⟨rfl, rfl⟩, .inr ⟨_, rfl, fun q hq => by rw [List.mem_singleton.mp hq]; exact ⟨_, w_faults, relI _ _⟩⟩⟩, k_faults⟩
    m_faults := PySem.W.mg_of X G a_faults
    F_falls := ⟨⟨_, _, _, _, _, _, _, _, _, _, rfl, l_falls, c_falls, .inl ⟨rfl, rfl⟩, .inr ⟨_, rfl, fun q hq => by rw [List.mem_singleton.mp hq]; exact ⟨_, w_falls, relI _ _⟩⟩⟩, k_falls⟩
    m_falls := PySem.W.mg_of X G a_falls
    F_ranks := (fun_mk (st := s_ranks) l_ranks c_ranks k_ranks)
    m_ranks := PySem.W.mg_of X G a_ranks
    F__law_number := (fun_mk (st := s__law_number) l__law_number c__law_number k__law_number)
    m__law_number := PySem.W.mg_of X G a__law_number
    F__law_take := (fun_mk (st := s__law_take) l__law_take c__law_take k__law_take)
    m__law_take := PySem.W.mg_of X G a__law_take
    F__law_pick := (fun_mk (st := s__law_pick) l__law_pick c__law_pick k__law_pick)
    m__law_pick := PySem.W.mg_of X G a__law_pick
    F__law_parent := (fun_mk (st := s__law_parent) l__law_parent c__law_parent k__law_parent)
    m__law_parent := PySem.W.mg_of X G a__law_parent
    F__law_way := (fun_mk (st := s__law_way) l__law_way c__law_way k__law_way)
    m__law_way := PySem.W.mg_of X G a__law_way
    F__law_subtree := (fun_mk (st := s__law_subtree) l__law_subtree c__law_subtree k__law_subtree)
    m__law_subtree := PySem.W.mg_of X G a__law_subtree
    F__law_arms := (fun_mk (st := s__law_arms) l__law_arms c__law_arms k__law_arms)
    m__law_arms := PySem.W.mg_of X G a__law_arms
    F__law_keys := (fun_mk (st := s__law_keys) l__law_keys c__law_keys k__law_keys)
    m__law_keys := PySem.W.mg_of X G a__law_keys
    F__law_is_heap := (fun_mk (st := s__law_is_heap) l__law_is_heap c__law_is_heap k__law_is_heap)
    m__law_is_heap := PySem.W.mg_of X G a__law_is_heap
    F__law_heap := (fun_mk (st := s__law_heap) l__law_heap c__law_heap k__law_heap)
    m__law_heap := PySem.W.mg_of X G a__law_heap
    F__law_row_right := (fun_mk (st := s__law_row_right) l__law_row_right c__law_row_right k__law_row_right)
    m__law_row_right := PySem.W.mg_of X G a__law_row_right
    F_law := (fun_mk (st := s_law) l_law c_law k_law)
    m_law := PySem.W.mg_of X G a_law
    c_MOST_ARMS := .inr ⟨_, PySem.W.mg_of X G q_MOST_ARMS⟩
    c_MOST_PLACES := .inr ⟨_, PySem.W.mg_of X G q_MOST_PLACES⟩
    c_GREATEST_KEY := .inr ⟨_, PySem.W.mg_of X G q_GREATEST_KEY⟩
    g_isinstance := PySem.W.mg_none_of X G z_isinstance
    g_int := PySem.W.mg_none_of X G z_int
    g_bool := PySem.W.mg_none_of X G z_bool
    g_len := PySem.W.mg_none_of X G z_len
    g_tuple := PySem.W.mg_none_of X G z_tuple
    g_list := PySem.W.mg_none_of X G z_list
    g_range := PySem.W.mg_none_of X G z_range
    g_enumerate := PySem.W.mg_none_of X G z_enumerate
    g_iter := PySem.W.mg_none_of X G z_iter
    g_sorted := PySem.W.mg_none_of X G z_sorted
    g_sum := PySem.W.mg_none_of X G z_sum
    g_any := PySem.W.mg_none_of X G z_any
    cT := ⟨pg, hd, po_, sa⟩
    nMany := na_nMany
    nArms := na_nArms
    nPl := na_nPl
    mC := PySem.W.mg_of X G aC
    mkC := ⟨mk, a_t___init__, i_t___init__, kc⟩
    cr := ⟨rd, ga⟩
    cof := ⟨a_t_of, ⟨_, r_t_of⟩, n_t_of⟩
  }
  exact ⟨A.d_law, fun s v => .of_eq rfl, fun base _ _ => ok_law T⟩
theorem walk {l : PySem.W.OpenLaw} {q : Program} {loose : List Str} {XP : (Str → Option Value) → Heap → Prop} {YP : World → Heap → Prop} {d : DefRec} {K : Params → PySem.W.Frag} (hn : l.most = some 63) (hdf : d.params.defaults = [])
    (hY : ∀ (w : World) (h : Heap), YP w h → (K w.params).In h)
    (F : ∀ (w : World) (mg : Str → Option Value) (fa : Addr) (h : Heap), (K w.params).In h → h.Ns mainGlobals mg → mg d.name = some (.ref fa) →
      ∃ fd : FuncData, (∀ (s : Shared) (u : Value), BindsTo s fd ⟨[u], []⟩ [("script", u)]) ∧ ∀ base : Heap, (K w.params).In base → base.Ns mainGlobals mg → FnOk l.prog w (K w.params) mg base CX0 10 fa fd ["script"] (spLaw (K w.params))) :
    PySem.W.WalkO q loose XP YP l.row.toRowW d [] (fun f vs => PySem.call f vs) :=
  L2.walk_of (n := 63) (k := 10) (x := "script") (CX := fun _ => CX0) (sp := fun w => spLaw (K w.params)) hn (by decide) hdf ⟨rfl, by decide, by decide⟩ hY F (fun _ _ a ns hl _ hS => ⟨a, ns, rfl, hS, hl, fun _ => rfl⟩) fun _ _ _ _ _ z => z
end Tw

open PySem PySem.W PyProof.Rows in
set_option maxRecDepth 100000 in
set_option maxHeartbeats 0 in
theorem PySem.Challenge.cw_heaprows_k02_whole_rows_holds : PySem.Challenge.rw_heaprows_k02_whole_rows.Holds := by
  w_on; o_law; k_head; (case hw => w_witness2)
  k_fill
  refine Tw.walk (l := PySem.Challenge.rw_heaprows_k02_whole_rows) rfl rfl (fun w h Y => PySem.W.kIn_of Y) ?F
  case F =>
    intro w mg fa h KX G hmg
    refine' Tw.all_mk KX G hmg ?aC ?a_is_integer ?l_is_integer ?c_is_integer ?k_is_integer ?a_is_integer_from ?l_is_integer_from ?c_is_integer_from ?k_is_integer_from ?a_is_key ?l_is_key ?c_is_key ?k_is_key ?a_check_arms ?l_check_arms ?c_check_arms ?k_check_arms ?a_check_many ?l_check_many ?c_check_many ?k_check_many ?a_check_place ?l_check_place ?c_check_place ?k_check_place ?a_row_of ?l_row_of ?c_row_of ?k_row_of ?a_t___init__ ?i_t___init__ ?l_t___init__ ?c_t___init__ ?k_t___init__ ?w_t___init__ ?a_t_of ?r_t_of ?n_t_of ?l_t_of ?c_t_of ?k_t_of ?w_t_of ?a_t___iter__ ?i_t___iter__ ?n_t___iter__ ?l_t___iter__ ?c_t___iter__ ?k_t___iter__ ?a_t_parent ?i_t_parent ?l_t_parent ?c_t_parent ?k_t_parent ?a_t_way_to ?i_t_way_to ?l_t_way_to ?c_t_way_to ?k_t_way_to ?a_t_subtree ?i_t_subtree ?l_t_subtree ?c_t_subtree ?k_t_subtree ?a_is_heap ?l_is_heap ?c_is_heap ?k_is_heap ?w_is_heap ?a_faults ?l_faults ?c_faults ?k_faults ?w_faults ?a_falls ?l_falls ?c_falls ?k_falls ?w_falls ?a_ranks ?l_ranks ?c_ranks ?k_ranks ?a__law_number ?l__law_number ?c__law_number ?k__law_number ?a__law_take ?l__law_take ?c__law_take ?k__law_take ?a__law_pick ?l__law_pick ?c__law_pick ?k__law_pick ?a__law_parent ?l__law_parent ?c__law_parent ?k__law_parent ?a__law_way ?l__law_way ?c__law_way ?k__law_way ?a__law_subtree ?l__law_subtree ?c__law_subtree ?k__law_subtree ?a__law_arms ?l__law_arms ?c__law_arms ?k__law_arms ?a__law_keys ?l__law_keys ?c__law_keys ?k__law_keys ?a__law_is_heap ?l__law_is_heap ?c__law_is_heap ?k__law_is_heap ?a__law_heap ?l__law_heap ?c__law_heap ?k__law_heap ?a__law_row_right ?l__law_row_right ?c__law_row_right ?k__law_row_right ?a_law ?l_law ?c_law ?k_law ?q_MOST_ARMS ?q_MOST_PLACES ?q_GREATEST_KEY ?z_isinstance ?z_int ?z_bool ?z_len ?z_tuple ?z_list ?z_range ?z_enumerate ?z_iter ?z_sorted ?z_sum ?z_any ?pg ?hd ?po_ ?sa ?na_nMany ?na_nArms ?na_nPl ?mk ?kc ?rd ?ga
    (case aC => k_is)
    (case a_is_integer => k_is)
    (case l_is_integer => k_is)
    (case c_is_integer => k_is)
    (case k_is_integer => k_is)
    (case a_is_integer_from => k_is)
    (case l_is_integer_from => k_is)
    (case c_is_integer_from => k_is)
    (case k_is_integer_from => k_is)
    (case a_is_key => k_is)
    (case l_is_key => k_is)
    (case c_is_key => k_is)
    (case k_is_key => k_is)
    (case a_check_arms => k_is)
    (case l_check_arms => k_is)
    (case c_check_arms => k_is)
    (case k_check_arms => k_is)
    (case a_check_many => k_is)
    (case l_check_many => k_is)
    (case c_check_many => k_is)
    (case k_check_many => k_is)
    (case a_check_place => k_is)
    (case l_check_place => k_is)
    (case c_check_place => k_is)
    (case k_check_place => k_is)
    (case a_row_of => k_is)
    (case l_row_of => k_is)
    (case c_row_of => k_is)
    (case k_row_of => k_is)
    (case a_t___init__ => k_is)
    (case i_t___init__ => k_is)
    (case l_t___init__ => k_is)
    (case c_t___init__ => k_is)
    (case k_t___init__ => k_is)
    (case w_t___init__ => k_is)
    (case a_t_of => k_is)
    (case r_t_of => k_is)
    (case n_t_of => k_is)
    (case l_t_of => k_is)
    (case c_t_of => k_is)
    (case k_t_of => k_is)
    (case w_t_of => k_is)
    (case a_t___iter__ => k_is)
    (case i_t___iter__ => k_is)
    (case n_t___iter__ => k_is)
    (case l_t___iter__ => k_is)
    (case c_t___iter__ => k_is)
    (case k_t___iter__ => k_is)
    (case a_t_parent => k_is)
    (case i_t_parent => k_is)
    (case l_t_parent => k_is)
    (case c_t_parent => k_is)
    (case k_t_parent => k_is)
    (case a_t_way_to => k_is)
    (case i_t_way_to => k_is)
    (case l_t_way_to => k_is)
    (case c_t_way_to => k_is)
    (case k_t_way_to => k_is)
    (case a_t_subtree => k_is)
    (case i_t_subtree => k_is)
    (case l_t_subtree => k_is)
    (case c_t_subtree => k_is)
    (case k_t_subtree => k_is)
    (case a_is_heap => k_is)
    (case l_is_heap => k_is)
    (case c_is_heap => k_is)
    (case k_is_heap => k_is)
    (case w_is_heap => k_is)
    (case a_faults => k_is)
    (case l_faults => k_is)
    (case c_faults => k_is)
    (case k_faults => k_is)
    (case w_faults => k_is)
    (case a_falls => k_is)
    (case l_falls => k_is)
    (case c_falls => k_is)
    (case k_falls => k_is)
    (case w_falls => k_is)
    (case a_ranks => k_is)
    (case l_ranks => k_is)
    (case c_ranks => k_is)
    (case k_ranks => k_is)
    (case a__law_number => k_is)
    (case l__law_number => k_is)
    (case c__law_number => k_is)
    (case k__law_number => k_is)
    (case a__law_take => k_is)
    (case l__law_take => k_is)
    (case c__law_take => k_is)
    (case k__law_take => k_is)
    (case a__law_pick => k_is)
    (case l__law_pick => k_is)
    (case c__law_pick => k_is)
    (case k__law_pick => k_is)
    (case a__law_parent => k_is)
    (case l__law_parent => k_is)
    (case c__law_parent => k_is)
    (case k__law_parent => k_is)
    (case a__law_way => k_is)
    (case l__law_way => k_is)
    (case c__law_way => k_is)
    (case k__law_way => k_is)
    (case a__law_subtree => k_is)
    (case l__law_subtree => k_is)
    (case c__law_subtree => k_is)
    (case k__law_subtree => k_is)
    (case a__law_arms => k_is)
    (case l__law_arms => k_is)
    (case c__law_arms => k_is)
    (case k__law_arms => k_is)
    (case a__law_keys => k_is)
    (case l__law_keys => k_is)
    (case c__law_keys => k_is)
    (case k__law_keys => k_is)
    (case a__law_is_heap => k_is)
    (case l__law_is_heap => k_is)
    (case c__law_is_heap => k_is)
    (case k__law_is_heap => k_is)
    (case a__law_heap => k_is)
    (case l__law_heap => k_is)
    (case c__law_heap => k_is)
    (case k__law_heap => k_is)
    (case a__law_row_right => k_is)
    (case l__law_row_right => k_is)
    (case c__law_row_right => k_is)
    (case k__law_row_right => k_is)
    (case a_law => k_is)
    (case l_law => k_is)
    (case c_law => k_is)
    (case k_law => k_is)
    (case q_MOST_ARMS => k_is)
    (case q_MOST_PLACES => k_is)
    (case q_GREATEST_KEY => k_is)
    (case z_isinstance => k_is)
    (case z_int => k_is)
    (case z_bool => k_is)
    (case z_len => k_is)
    (case z_tuple => k_is)
    (case z_list => k_is)
    (case z_range => k_is)
    (case z_enumerate => k_is)
    (case z_iter => k_is)
    (case z_sorted => k_is)
    (case z_sum => k_is)
    (case z_any => k_is)
    (case pg => k_is)
    (case hd => k_is)
    (case po_ => k_is)
    (case sa => k_is)
    (case na_nMany => k_is)
    (case na_nArms => k_is)
    (case na_nPl => k_is)
    (case mk => k_is)
    (case kc => k_is)
    (case rd => k_is)
    (case ga => k_is)
