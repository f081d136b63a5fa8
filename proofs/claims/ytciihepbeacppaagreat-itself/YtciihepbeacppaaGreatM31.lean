import Derived.Test.YtciihepbeacppaaGreatM30
namespace Go.Proofs.YtciihepbeacppaaGreat
open Go.RowKit List
set_option linter.unusedVariables false
def AR(z ws:List ByteArray)(s:PS):Prop :=
 s.failed=false->ajL ws s.pos=false/\Pd z ws s.pos=s.vars.map bW/\nmH ws s.pos=s.hid.map bW
def iz(z ws:List ByteArray)(F:PS->PS):Prop:=∀s,AR z ws s->AR z ws (F s)
theorem G0(z ws:List ByteArray)(s:PS):AR z ws s.fail:=λh=>(by cases h)
theorem agS{z ws:List ByteArray}{n:Nat}(hl:aX (ws[n]?.getD em)=false)(hu:lz (ws[n]?.getD em)=false):Pd z ws (n+1)=Pd z ws n/\nmH ws (n+1)=nmH ws n:=by
 constructor
 .show kX (aX (ws[n]?.getD em)&&!ajL ws n) _ _=_;rw[hl];rfl
 .show kX (lz (ws[n]?.getD em)) _ _=_;rw[hu];rfl
theorem oC{z ws:List ByteArray}{s:PS}{k:ByteArray}(h:AR z ws s)(ha:cL ws k s=true)(hl:aX k=false)(hu:lz k=false)(hd:k≠iE):AR z ws s.adv:=by
 intro hf;have AA:s.failed=false:=hf;have hk:=(Pv (ws:=ws) AA).symm.trans (X3 ha);obtain⟨_,h2,h3⟩:=h AA;have hn:=agS (z:=z) (ws:=ws) (n:=s.pos) (by rw[hk];exact hl) (by rw[hk];exact hu);refine⟨?_,hn.1.trans h2,hn.2.trans h3⟩;show bO (ws[s.pos]?.getD em) iE=false;rw[hk];exact de hd
theorem Ha{z ws:List ByteArray}{k:ByteArray}(hl:aX k=false)(hu:lz k=false)(hd:k≠iE):iz z ws (bp ws k):=by
 intro s h;unfold bp;by_cases ha:cL ws k s=true
 .rw[if_pos ha];exact oC h ha hl hu hd
 .rw[if_neg ha];exact G0 _ _ _
theorem agK{z ws:List ByteArray}:iz z ws (cn ws):=by
 intro s h;unfold cn;by_cases hl:aX (pk ws s)=true
 .rw[if_pos hl];intro hf;have AA:s.failed=false:=hf;obtain⟨h1,h2,h3⟩:=h AA;have hk:=Pv (ws:=ws) AA;rw[hk]at hl;have ho:=zr hl;refine⟨?_,?_,?_⟩
  .show bO (ws[s.pos]?.getD em) iE=false;exact de (kM hl rfl)
  .show kX (aX (ws[s.pos]?.getD em)&&!ajL ws s.pos) (Pd z ws s.pos) (ws[s.pos]?.getD em)=(put s.vars (BQ (pk ws s))).map bW;rw[h1,hl,h2,hk];conv=>lhs;rw[ho]
   exact FQ _ _
  .show kX (lz (ws[s.pos]?.getD em)) (nmH ws s.pos) _=_;rw[qY _ hl];exact h3
 .rw[if_neg hl];exact G0 _ _ _
theorem aac{z ws:List ByteArray}:iz z ws (cO ws):=by
 intro s h;unfold cO;by_cases ha:cL ws m7 s=true
 .rw[if_pos ha];exact oC h ha rfl rfl (aM (by simp[m7,iE]))
 .rw[if_neg ha];exact agK s h
theorem Hb{z ws:List ByteArray}:iz z ws (ev ws):=by
 intro s h;unfold ev;by_cases hl:lz (pk ws s)=true
 .rw[if_pos hl];intro hf;have AA:s.failed=false:=hf;obtain⟨h1,h2,h3⟩:=h AA;have hk:=Pv (ws:=ws) AA;rw[hk]at hl;have ho:=Fr hl;have rH:aX (ws[s.pos]?.getD em)=false:=by
   cases hx:aX (ws[s.pos]?.getD em) with
   |false=>rfl
   |true=>rw[qY _ hx]at hl;cases hl
  refine⟨?_,?_,?_⟩
  .show bO (ws[s.pos]?.getD em) iE=false;exact de (Qt hl rfl)
  .show kX (aX (ws[s.pos]?.getD em)&&!ajL ws s.pos) (Pd z ws s.pos) (ws[s.pos]?.getD em)=_;rw[rH];exact h2
  .show kX (lz (ws[s.pos]?.getD em)) (nmH ws s.pos) (ws[s.pos]?.getD em)=(put s.hid (BQ (pk ws s))).map bW;rw[hl,h3,hk];conv=>lhs;rw[ho]
   exact FQ _ _
 .rw[if_neg hl];exact aac s h
theorem zl{z ws:List ByteArray}{k:ByteArray}{A B:PS->PS}(hA:∀s,AR z ws s->cL ws k s=true->AR z ws (A s))(hB:iz z ws B):iz z ws (λs=>if cL ws k s then A s else B s):=by
 intro s h;dsimp only;by_cases ha:cL ws k s=true
 .rw[if_pos ha];exact hA s h ha
 .rw[if_neg ha];exact hB s h
theorem ahc{z ws:List ByteArray}:iz z ws (bp ws eX):=Ha rfl rfl (aM (by simp[eX,iE]))
theorem abD{z ws:List ByteArray}:iz z ws (bp ws gY):=Ha rfl rfl (aM (by simp[gY,iE]))
theorem abE{z ws:List ByteArray}:iz z ws (bp ws l8):=Ha rfl rfl (aM (by simp[l8,iE]))
theorem zTo{z ws:List ByteArray}:iz z ws (bp ws WU):=Ha rfl rfl (aM (by simp[WU,iE]))
theorem aab{z ws:List ByteArray}:iz z ws (eg ws) :=
 zl (λ_ h ha=>oC h ha rfl rfl (aM (by simp[m6,iE]))) (zl (λ_ h ha=>oC h ha rfl rfl (aM (by simp[wo,iE]))) zTo)
theorem agJ{z ws:List ByteArray}:iz z ws (zq ws):=λ_ h=>abD _ (Hb _ (abE _ (Hb _ (ahc _ h))))
theorem WW{z ws:List ByteArray}:iz z ws (dH ws) :=
 zl (λ_ h ha=>oC h ha rfl rfl (aM (by simp[oB,iE]))) (zl (λ_ h ha=>agJ _ (oC h ha rfl rfl (aM (by simp[G7,iE])))) (λ_ h=>Hb _ (aab _ (Hb _ h))))
theorem aaa{z ws:List ByteArray}(n:Nat):iz z ws (λs=>(fW ws n s).2):=by
 induction n with
 |zero=>exact λ_ h=>h
 |succ n ih =>
  intro s h;simp only[fW];by_cases ha:cL ws dO s=true
  .rw[if_pos ha];exact ih _ (WW _ (oC h ha rfl rfl (aM (by simp[dO,iE]))))
  .rw[if_neg ha];exact h
theorem agI{z ws:List ByteArray}:iz z ws (po ws):=λs h=>aaa (ws.length+1) _ (WW s h)
def Uv(a:oQ):Bool:=bO a.k kS||bO a.k jU
def si(ad nx:List Int)(ns:List ByteArray)(vs:List Int)(f:List oQ):Bool:=Yb ad nx (f.filter (λa=>!Uv a)) (f.filter Uv).length (f.filter Uv) ns vs (replicate ad.length true)
def Dw(vars hid:List UInt8)(k i:Nat):ByteArray:=if k=1 then bW (vars.getD i 0) else if k=2 then bW (hid.getD i 0) else fy
def wq(k:Nat):ByteArray:=if k=1 then bV else if k=2 then dN else if k=3 then kS else jU
def vL(vars hid:List UInt8)(a:bC):oQ:=⟨wq a.k,Dw vars hid a.lk a.li,Dw vars hid a.rk a.ri⟩
def KE(vars hid:List UInt8)(k i:Nat):Prop:=k<=2/\(k=1->i<vars.length)/\(k=2->i<hid.length)
def mS(s s':PS):Prop:=s.vars <+: s'.vars/\s.hid <+: s'.hid
theorem mS.refl(s:PS):mS s s:=⟨prefix_refl _,prefix_refl _⟩
theorem mS.trans{a b c:PS}(h:mS a b)(h2:mS b c):mS a c:=⟨h.1.trans h2.1,h.2.trans h2.2⟩
theorem Il{l l':List UInt8}(h:l <+: l'){i:Nat}(hi:i<l.length):l'.getD i 0=l.getD i 0:=by
 obtain⟨t,rfl⟩:=h;simp only[getD_eq_getElem?_getD];rw[getElem?_append_left hi]
theorem qa{s s':PS}(h:mS s s'){k i:Nat}(hb:KE s.vars s.hid k i):Dw s'.vars s'.hid k i=Dw s.vars s.hid k i:=by
 unfold Dw;by_cases h1:k=1
 .rw[if_pos h1,if_pos h1,Il h.1 (hb.2.1 h1)]
 .rw[if_neg h1,if_neg h1];by_cases h2:k=2
  .rw[if_pos h2,if_pos h2,Il h.2 (hb.2.2 h2)]
  .rw[if_neg h2,if_neg h2]
theorem KE.gro{s s':PS}(h:mS s s'){k i:Nat}(hb:KE s.vars s.hid k i):KE s'.vars s'.hid k i :=
 ⟨hb.1,λh1=>zq6 (hb.2.1 h1) h.1.length_le,λh1=>zq6 (hb.2.2 h1) h.2.length_le⟩
theorem Io(l:List UInt8)(c:UInt8):l <+: put l c:=by
 unfold put;split
 .exact prefix_append _ _
 .exact prefix_refl _
theorem Uw{l:List UInt8}{c:UInt8}(h:plc l c<l.length):l.getD (plc l c) 0=c:=by
 induction l with
 |nil=>simp at h
 |cons a l ih =>
  have e:plc (a::l) c=if a=c then 0 else plc l c+1:=rfl
  rw[e]at h ⊢;by_cases hc:a=c
  .rw[if_pos hc];simpa using hc
  .rw[if_neg hc]at h ⊢;simpa using ih (by simpa using h)
theorem Im(l:List UInt8)(c:UInt8):plc l c<(put l c).length/\(put l c).getD (plc l c) 0=c:=by
 have h1:=uJ l c;unfold put;by_cases h:plc l c=l.length
 .rw[if_pos h,h];simp
 .rw[if_neg h];exact⟨by omega,Uw (by omega)⟩
theorem n9(ws:List ByteArray)(k:ByteArray)(s:PS):mS s (bp ws k s):=by unfold bp;split <;> exact mS.refl s
theorem M8(ws:List ByteArray)(s:PS):mS s (cn ws s):=by
 unfold cn;split
 .exact⟨Io _ _,prefix_refl _⟩
 .exact mS.refl s
theorem GC(ws:List ByteArray)(s:PS):mS s (cO ws s):=by
 unfold cO;split
 .exact mS.refl s
 .exact M8 ws s
theorem qM(ws:List ByteArray)(s:PS):mS s (ev ws s):=by
 unfold ev;split
 .exact⟨prefix_refl _,Io _ _⟩
 .exact GC ws s
theorem GB(ws:List ByteArray)(s:PS):mS s (eg ws s):=by
 unfold eg;split
 .exact mS.refl s
 .split
  .exact mS.refl s
  .exact n9 ws _ s
theorem YE(ws:List ByteArray)(s:PS):mS s (zq ws s) :=
 (n9 ws _ s).trans ((qM ws _).trans ((n9 ws _ _).trans ((qM ws _).trans (n9 ws _ _))))
theorem Eg(ws:List ByteArray)(s:PS):mS s (dH ws s):=by
 unfold dH;split
 .exact mS.refl s
 .split
  .exact YE ws s.adv
  .exact(qM ws s).trans ((GB ws _).trans (qM ws _))
theorem GA(ws:List ByteArray)(n:Nat):∀s,mS s (fW ws n s).2:=by
 induction n with
 |zero=>intro s;exact mS.refl s
 |succ n ih =>
  intro s;simp only[fW];split
  .exact(Eg ws s.adv).trans (ih _)
  .exact mS.refl s
theorem IJ{ws:List ByteArray}{s:PS}{x:ByteArray}{r:List ByteArray}(h:Rd ws s (x::r))(hx:dl x=true):
  Dw (ev ws s).vars (ev ws s).hid (rm ws s) (rl ws s)=x/\KE (ev ws s).vars (ev ws s).hid (rm ws s) (rl ws s)/\Rd ws (ev ws s) r:=by
 have JZ:Rd ws (ev ws s) r:=by
  have:=rh.ok s _ h;rw[iX.2 ⟨x,hx,rfl⟩]at this;exact this
 have Rb:=Ii h;have KR:cL ws m7 s=bO x m7:=gX OI h;by_cases hu:lz x=true
 .have hK:rm ws s=2:=by unfold rm;rw[Rb,if_pos hu]
  have hI:rl ws s=plc s.hid (BQ x):=by unfold rl;rw[Rb,if_pos hu]
  have hS:(ev ws s).hid=put s.hid (BQ x):=by unfold ev;rw[Rb,if_pos hu]
  have hp:=Im s.hid (BQ x);refine⟨?_,?_,JZ⟩
  .rw[hK,hI,hS];unfold Dw;rw[if_neg (by decide),if_pos rfl,hp.2];exact(Fr hu).symm
  .rw[hK,hI,hS];exact⟨by omega,λh=>by omega,λ_=>hp.1⟩
 .have hK:rm ws s=ej ws s:=by unfold rm;rw[Rb,if_neg hu]
  have hI:rl ws s=fB ws s:=by unfold rl;rw[Rb,if_neg hu]
  have hS:ev ws s=cO ws s:=by unfold ev;rw[Rb,if_neg hu]
  by_cases hn:bO x m7=true
  .have hK2:ej ws s=0:=(by unfold ej;rw[KR,if_pos hn]);have bP:fB ws s=0:=(by unfold fB;rw[KR,if_pos hn]);refine⟨?_,?_,JZ⟩
   .rw[hK,hI,hK2,bP];unfold Dw;rw[if_neg (by decide),if_neg (by decide)];exact(b9.1 hn).symm
   .rw[hK,hI,hK2,bP];exact⟨by omega,λh=>by omega,λh=>by omega⟩
  .have hl:aX x=true:=by
    simp only[dl,Bool.or_eq_true]at hx;rcases hx with(hx|hx)|hx
    .exact absurd hx hn
    .exact hx
    .exact absurd hx hu
   have hK2:ej ws s=1:=(by unfold ej;rw[KR,if_neg hn]);have bP:fB ws s=plc s.vars (BQ x):=(by unfold fB;rw[KR,if_neg hn];unfold rR;rw[Rb,if_pos hl]);have bE:(ev ws s).vars=put s.vars (BQ x):=(by rw[hS];unfold cO;rw[KR,if_neg hn];unfold cn;rw[Rb,if_pos hl]);have hp:=Im s.vars (BQ x);refine⟨?_,?_,JZ⟩
   .rw[hK,hI,hK2,bP,bE];unfold Dw;rw[if_pos rfl,hp.2];exact(zr hl).symm
   .rw[hK,hI,hK2,bP,bE];exact⟨by omega,λ_=>hp.1,λh=>by omega⟩
theorem aaY{ws:List ByteArray}{s:PS}{x:ByteArray}{r:List ByteArray}(h:Rd ws s (x::r))(hx:(bO x bV||bO x dN||bO x kS)=true):
  wq (iY ws s)=x/\(1<=iY ws s/\iY ws s<=3)/\Rd ws (eg ws s) r:=by
 have JZ:Rd ws (eg ws s) r:=by
  have:=zH.ok s _ h;rw[rf.2 ⟨x,hx,rfl⟩]at this;exact this
 have h1:cL ws m6 s=bO x m6:=gX WS h;have h2:cL ws wo s=bO x wo:=gX WT h;by_cases e1:bO x m6=true
 .have:iY ws s=1:=by unfold iY;rw[h1,if_pos e1]
  rw[this];exact⟨(b9.1 e1).symm,by omega,JZ⟩
 .by_cases e2:bO x wo=true
  .have:iY ws s=2:=(by unfold iY;rw[h1,if_neg e1,h2,if_pos e2]);rw[this];exact⟨(b9.1 e2).symm,by omega,JZ⟩
  .have:iY ws s=3:=(by unfold iY;rw[h1,if_neg e1,h2,if_neg e2]);rw[this];simp only[Bool.or_eq_true]at hx;rcases hx with(hx|hx)|hx
   .exact absurd hx e1
   .exact absurd hx e2
   .exact⟨(b9.1 hx).symm,by omega,JZ⟩
theorem V1{ws:List ByteArray}{s:PS}{k:ByteArray}{r:List ByteArray}(hk:k.toList≠[])(h:Rd ws s (k::r)):Rd ws (bp ws k s) r:=by
 have:=(rg (ws:=ws) hk).ok s _ h;rw[Pm]at this;exact this
def nM(vars hid:List UInt8)(a:bC):Prop:=a.k<=4/\KE vars hid a.lk a.li/\KE vars hid a.rk a.ri
def EU(vars hid:List UInt8)(l:List bC):List oQ:=(l.filter (λa=>a.k != 0)).map (vL vars hid)
theorem VR{ws:List ByteArray}{s:PS}{p q:List ByteArray}(h:Rd ws s (p++q))(hp:sm p=true):
  Rh p=EU (dH ws s).vars (dH ws s).hid [nS ws s]/\nM (dH ws s).vars (dH ws s).hid (nS ws s)/\Rd ws (dH ws s) q:=by
 have JZ:Rd ws (dH ws s) q:=by
  have:=mh.ok s _ h;rw[iV.2 ⟨p,hp,rfl⟩]at this;exact this
 match p,hp with
 |[a],hp =>
  have ea:a=qE:=b9.1 (show bO a qE=true from hp);subst ea;have KR:cL ws oB s=true:=by
   rw[gX zh h];exact bt _
  have hA:nS ws s=⟨0,0,0,0,0⟩:=by unfold nS;rw[if_pos KR]
  rw[hA];exact⟨rfl,⟨by show 0<=4;omega,⟨by show 0<=2;omega,λh=>(by cases h),λh=>(by cases h)⟩,⟨by show 0<=2;omega,λh=>(by cases h),λh=>(by cases h)⟩⟩,JZ⟩
 |[a,b,c],hp =>
  simp only[sm,Bool.and_eq_true]at hp;obtain⟨⟨ha,hc⟩,hb⟩:=hp;have h':Rd ws s (a::b::c::q):=h;have aJ:cL ws oB s=false:=by
   rw[gX zh h'];exact de (jY ha (aM (by simp[oB,fy])) rfl rfl)
  have fU:cL ws G7 s=false:=by
   rw[gX OH h'];exact de (jY ha (aM (by simp[G7,fy])) rfl rfl)
  obtain⟨t1,t2,t3⟩:=IJ h' ha;obtain⟨r1,r2,r3⟩:=aaY t3 hb;obtain⟨u1,u2,u3⟩:=IJ r3 hc;have hA:nS ws s=⟨iY ws (ev ws s),rm ws s,rl ws s,rm ws (eg ws (ev ws s)),rl ws (eg ws (ev ws s))⟩:=by
   unfold nS;rw[if_neg (by rw[aJ];simp),if_neg (by rw[fU];simp)]
  have hS:dH ws s=ev ws (eg ws (ev ws s)):=by
   unfold dH;rw[if_neg (by rw[aJ];simp),if_neg (by rw[fU];simp)]
  have hg:mS (ev ws s) (ev ws (eg ws (ev ws s))):=(GB ws _).trans (qM ws _);refine⟨?_,?_,JZ⟩
  .rw[hA,hS];have hk:((iY ws (ev ws s)) != 0)=true:=(by rw[bne_iff_ne];omega);simp only[EU,filter_cons,hk,if_true,filter_nil,map_cons,map_nil];show [(⟨b,a,c⟩:oQ)]=[⟨_,_,_⟩];rw[r1,qa hg t2,t1,u1]
  .rw[hA,hS];exact⟨by show iY ws (ev ws s)<=4;omega,t2.gro hg,u2⟩
 |[a,b,c,d,e,f],hp =>
  simp only[sm,Bool.and_eq_true,b9]at hp;obtain⟨⟨⟨⟨rfl,rfl⟩,rfl⟩,rfl⟩,hc,he⟩:=hp;have h':Rd ws s (jU::Xd::c::Sj::e::QU::q):=h;have aJ:cL ws oB s=false:=by
   rw[gX zh h'];exact de (aM (by simp[oB,jU]))
  have fU:cL ws G7 s=true:=by
   rw[gX OH h'];exact bt _
  have h1:=iA h';have h2:Rd ws (pJ ws s.adv) (c::Sj::e::QU::q):=V1 G8 h1;obtain⟨t1,t2,t3⟩:=IJ h2 hc;have h3:Rd ws (oF ws s.adv) (e::QU::q):=V1 ur t3;obtain⟨u1,u2,u3⟩:=IJ h3 he;have hA:nS ws s=WX ws s.adv:=by unfold nS;rw[if_neg (by rw[aJ];simp),if_pos fU]
  have hS:dH ws s=zq ws s.adv:=by unfold dH;rw[if_neg (by rw[aJ];simp),if_pos fU]
  have NL:mS (ev ws (oF ws s.adv)) (zq ws s.adv):=n9 ws _ _;have hg:mS (ev ws (pJ ws s.adv)) (zq ws s.adv):=(n9 ws l8 _).trans ((qM ws _).trans NL);refine⟨?_,?_,JZ⟩
  .rw[hA,hS];show [(⟨jU,c,e⟩:oQ)]=[⟨wq 4,Dw _ _ (rm ws (pJ ws s.adv)) (rl ws (pJ ws s.adv)),Dw _ _ (rm ws (oF ws s.adv)) (rl ws (oF ws s.adv))⟩];rw[qa hg t2,t1,qa NL u2,u1];rfl
  .rw[hA,hS];exact⟨zq4 4,t2.gro hg,u2.gro NL⟩
theorem Uo(vars hid:List UInt8)(a b:List bC):EU vars hid (a++b)=EU vars hid a++EU vars hid b:=by simp[EU]
theorem Ia{s s':PS}(h:mS s s'){l:List bC}(hl:∀a∈l,nM s.vars s.hid a):EU s'.vars s'.hid l=EU s.vars s.hid l:=by
 unfold EU;apply map_congr_left;intro a ha;have:=hl a (mem_filter.1 ha).1;unfold vL;rw[qa h this.2.1,qa h this.2.2]
theorem nM.gro{s s':PS}(h:mS s s'){a:bC}(ha:nM s.vars s.hid a):nM s'.vars s'.hid a:=⟨ha.1,ha.2.1.gro h,ha.2.2.gro h⟩
theorem ad8{ws:List ByteArray}{f:List ByteArray}(hf:oX f):∀{n:Nat} {s:PS} {q:List ByteArray},Rd ws s (f++q)->f.length<=n->yQ cJ q=false ->
  ∃al,vM [] f=some al/\al=EU (fW ws n (dH ws s)).2.vars (fW ws n (dH ws s)).2.hid (nS ws s::(fW ws n (dH ws s)).1)/\∀a∈nS ws s::(fW ws n (dH ws s)).1,nM (fW ws n (dH ws s)).2.vars (fW ws n (dH ws s)).2.hid a:=by
 induction hf using oX.ind with
 |@one p hp =>
  intro n s q h hn hq;obtain⟨h1,h2,h3⟩:=VR h hp;have e:fW ws n (dH ws s)=([],dH ws s):=by
   cases n with
   |zero=>rfl
   |succ n=>simp only[fW];rw[gX zj h3,show yQ dO q=false from hq,if_neg (by simp)]
  rw[e];refine⟨Rh p,?_,h1,λa ha=>?_⟩
  .have:=mL (iq hp) [] [];rw[append_nil]at this;rw[this];simp only[vM,nil_append,if_pos hp]
  .simp only[mem_singleton]at ha;subst ha;exact h2
 |@more p r hp _ ih =>
  intro n s q h hn hq;rw[append_assoc]at h;obtain⟨h1,h2,h3⟩:=VR h hp;have h3':Rd ws (dH ws s) (cJ::(r++q)):=h3;simp only[length_append,length_cons]at hn;cases n with
  |zero=>omega
  |succ n =>
   have e:fW ws (n+1) (dH ws s)=(nS ws (dH ws s).adv::(fW ws n (dH ws (dH ws s).adv)).1,(fW ws n (dH ws (dH ws s).adv)).2):=by
    simp only[fW];rw[gX zj h3',show yQ dO (cJ::(r++q))=true from bt _,if_pos rfl]
   obtain⟨al,g1,g2,g3⟩:=ih (n:=n) (iA h3') (by omega) hq;rw[e];have hg:mS (dH ws s) (fW ws n (dH ws (dH ws s).adv)).2:=(Eg ws (dH ws s).adv).trans (GA ws n _);refine⟨Rh p++al,?_,?_,λa ha=>?_⟩
   .rw[mL (iq hp)];simp only[vM,nil_append,bt,if_true,if_pos hp,g1];rfl
   .rw[show nS ws s::(nS ws (dH ws s).adv::(fW ws n (dH ws (dH ws s).adv)).1)=[nS ws s]++(nS ws (dH ws s).adv::(fW ws n (dH ws (dH ws s).adv)).1) from rfl,Uo,<-g2,h1];rw[Ia hg (λa ha=>by simp only[mem_singleton]at ha;subst ha;exact h2)]
   .rcases mem_cons.1 ha with rfl|ha
    .exact h2.gro hg
    .exact g3 a ha
structure oP(s:PS):Prop where
 nv:s.vars.Nodup
 nh:s.hid.Nodup
 lv:∀c∈s.vars,aX (bW c)=true
 lh:∀c∈s.hid,lz (bW c)=true
theorem Uy{l:List UInt8}{c:UInt8}(h:c∈l):plc l c<l.length:=by
 induction l with
 |nil=>cases h
 |cons a l ih =>
  show(if a=c then 0 else plc l c+1)<_;by_cases e:a=c
  .rw[if_pos e];simp
  .rw[if_neg e];rcases mem_cons.1 h with h|h
   .exact absurd h.symm e
   .have:=ih h;simp;omega
theorem In{l:List UInt8}{c x:UInt8}(h:x∈put l c):x∈l\/x=c:=by
 unfold put at h;split at h
 .rcases mem_append.1 h with h|h
  .exact zq0 h
  .exact zq1 (by simpa using h)
 .exact zq0 h
theorem xS{l:List UInt8}{c:UInt8}(h:l.Nodup):(put l c).Nodup:=by
 unfold put;split
 .rename_i he;rw[nodup_append];refine⟨h,by simp,λa ha b hb=>?_⟩;simp only[mem_singleton]at hb;subst hb;rintro rfl;have:=Uy ha;omega
 .exact h
theorem Ij{l:List UInt8}(h:l.Nodup){i:Nat}(hi:i<l.length):plc l (l.getD i 0)=i:=by
 induction l generalizing i with
 |nil=>simp at hi
 |cons a l ih =>
  have hn:=nodup_cons.1 h;cases i with
  |zero=>show(if a=a then 0 else _)=0;rw[if_pos rfl]
  |succ i =>
   have oU:i<l.length:=(by simpa using hi);show(if a=l.getD i 0 then 0 else plc l (l.getD i 0)+1)=i+1;rw[if_neg,ih hn.2 oU];rintro rfl;apply hn.1;have:l.getD i 0=l[i]:=(by simp[oU]);rw[this];exact getElem_mem oU
theorem qZ{ws:List ByteArray}{k:ByteArray}{s:PS}(h:oP s):oP (bp ws k s):=by unfold bp;split <;> exact⟨h.nv,h.nh,h.lv,h.lh⟩
theorem O0{ws:List ByteArray}{s:PS}(h:oP s):oP (cn ws s):=by
 unfold cn;split
 .rename_i hl;refine⟨xS h.nv,h.nh,λc hc=>?_,h.lh⟩;rcases In hc with hc|rfl
  .exact h.lv c hc
  .rw[<-zr hl];exact hl
 .exact⟨h.nv,h.nh,h.lv,h.lh⟩
theorem Hq{ws:List ByteArray}{s:PS}(h:oP s):oP (cO ws s):=by
 unfold cO;split
 .exact⟨h.nv,h.nh,h.lv,h.lh⟩
 .exact O0 h
theorem zs{ws:List ByteArray}{s:PS}(h:oP s):oP (ev ws s):=by
 unfold ev;split
 .rename_i hl;refine⟨h.nv,xS h.nh,h.lv,λc hc=>?_⟩;rcases In hc with hc|rfl
  .exact h.lh c hc
  .rw[<-Fr hl];exact hl
 .exact Hq h
theorem T8{ws:List ByteArray}{s:PS}(h:oP s):oP (eg ws s):=by
 unfold eg;split
 .exact⟨h.nv,h.nh,h.lv,h.lh⟩
 .split
  .exact⟨h.nv,h.nh,h.lv,h.lh⟩
  .exact qZ h
theorem OX{ws:List ByteArray}{s:PS}(h:oP s):oP (dH ws s):=by
 unfold dH;split
 .exact⟨h.nv,h.nh,h.lv,h.lh⟩
 .split
  .have h1:oP s.adv:=⟨h.nv,h.nh,h.lv,h.lh⟩;exact qZ (zs (qZ (zs (qZ h1))))
  .exact zs (T8 (zs h))
theorem T6{ws:List ByteArray}(n:Nat):∀{s:PS},oP s->oP (fW ws n s).2:=by
 induction n with
 |zero=>intro s h;exact h
 |succ n ih =>
  intro s h;simp only[fW];split
  .exact ih (OX ⟨h.nv,h.nh,h.lv,h.lh⟩)
  .exact h
theorem OY{ws:List ByteArray}{s:PS}(h:oP s):oP (po ws s):=T6 _ (OX h)
def Ib(vars hid:List UInt8)(t:Nat):ByteArray:=if t=0 then fy else if t<5 then bW (vars.getD (t-1) 0) else bW (hid.getD (t-5) 0)
theorem oI{vars hid:List UInt8}(hv:vars.length<=4){k i:Nat}(hb:KE vars hid k i):Ib vars hid (nj k i)=Dw vars hid k i:=by
 unfold Ib Dw nj;by_cases h1:k=1
 .have:=hb.2.1 h1;rw[if_pos h1,if_pos h1,if_neg (by omega),if_pos (by omega)];rw[show 1+i-1=i by omega]
 .rw[if_neg h1,if_neg h1];by_cases h2:k=2
  .rw[if_pos h2,if_pos h2,if_neg (by omega),if_neg (by omega)];rw[show 5+i-5=i by omega]
  .rw[if_neg h2,if_neg h2,if_pos rfl]
theorem Qd{vars hid:List UInt8}(hv:vars.length<=4)(hh:hid.length<=8){k i:Nat}(hb:KE vars hid k i):nj k i<13:=by
 unfold nj;by_cases h1:k=1
 .have:=hb.2.1 h1;rw[if_pos h1];omega
 .rw[if_neg h1];by_cases h2:k=2
  .have:=hb.2.2 h2;rw[if_pos h2];omega
  .rw[if_neg h2];omega
theorem ti{vars hid:List UInt8}(hv:vars.length<=4)(hh:hid.length<=8){al:List bC}(ha:∀a∈al,nM vars hid a):gD al :=
 λa h=>⟨Qd hv hh (ha a h).2.1,Qd hv hh (ha a h).2.2⟩
theorem ag9:bO kS bV=false:=de (aM (by simp[kS,bV]))
theorem OJ{k:Nat}(h:k<=4)(h0:k≠0):(bO (wq k) bV=true↔k=1)/\(bO (wq k) kS=true↔k=3)/\((bO (wq k) kS||bO (wq k) jU)=true↔(k=3\/k=4)):=by
 have n1:bO dN bV=false:=de (aM (by simp[dN,bV]));have n2:bO jU bV=false:=de (aM (by simp[jU,bV]));have n3:bO bV kS=false:=de (aM (by simp[kS,bV]));have n4:bO dN kS=false:=de (aM (by simp[kS,dN]));have n5:bO jU kS=false:=de (aM (by simp[kS,jU]));have n6:bO bV jU=false:=de (aM (by simp[jU,bV]));have n7:bO dN jU=false:=de (aM (by simp[jU,dN]));have n8:bO kS jU=false:=de (aM (by simp[jU,kS]));have hk:k=1\/k=2\/k=3\/k=4:=by omega
 rcases hk with rfl|rfl|rfl|rfl
 .simp[wq,bt,n3,n6]
 .simp[wq,n1,n4,n7]
 .simp[wq,ag9,bt]
 .simp[wq,n2,n5,bt]
theorem aaw{vars hid:List UInt8}{al:List bC}(ha:∀a∈al,nM vars hid a):(EU vars hid al).filter Uv=(al.filter (λa=>a.k==3||a.k==4)).map (vL vars hid):=by
 unfold EU;rw[filter_map,filter_filter];congr 1;apply filter_congr;intro a h;by_cases h0:a.k=0
 .simp[h0]
 .have h1:(a.k != 0)=true:=by rw[bne_iff_ne];exact h0
  rw[h1,Bool.and_true];have:=(OJ (ha a h).1 h0).2.2;show(bO (wq a.k) kS||bO (wq a.k) jU)=_;rw[Bool.eq_iff_iff,this];simp
def nI(v:List UInt8):PS:=⟨0,false,v,[],[]⟩
def nL(v l:List UInt8):PS:=pj (bN l) (po (bN l) (nI v))
def lx(v l:List UInt8):Nat:=if 240<l.length then 1 else if ju l=none then 2 else if (nL v l).failed=true then 3 else 0
def nJ(a:List UInt8):PS:=nL [] a
def nK(a c:List UInt8):PS:=nL (nJ a).vars c
def vi(a c:List UInt8):Nat:=if lx [] a≠0 then lx [] a else if lx (nJ a).vars c≠0 then lx (nJ a).vars c else if 4<(nK a c).vars.length\/8<(nJ a).hid.length\/8<(nK a c).hid.length then 4 else 0
def IN(a:List UInt8):List bC:=Bu (bN a) (nI [])
def U9(a c:List UInt8):List bC:=Bu (bN c) (nI (nJ a).vars)
def wZ(a c:List UInt8):Bool × Nat:=if vi a c≠0 then (false,vi a c) else Dc (IN a) (U9 a c)
theorem PL(v:List UInt8)(ws:List ByteArray):Rd ws (nI v) ws:=⟨rfl,rfl,zq5 _⟩
theorem Qq(v l:List UInt8):(nL v l).failed=false↔∃al,vM [] (bN l)=some al:=by
 have hp:=zG (ws:=bN l) |>.ok (nI v) _ (PL v _);constructor
 .intro h;cases hq:Ki ((bN l).length+1) (bN l) with
  |none =>
   rw[hq]at hp;have hf:(po (bN l) (nI v)).failed=true:=hp;unfold nL pj at h;split at h
   .rw[hf]at h;cases h
   .cases h
  |some q =>
   rw[hq]at hp;have hr:Rd (bN l) (po (bN l) (nI v)) q:=hp;unfold nL pj at h;by_cases he:(po (bN l) (nI v)).pos=(bN l).length
   .have Rc:q=[]:=(by rw[<-hr.2.1,he];exact drop_length);subst Rc;obtain⟨f,hf,e⟩:=Ju hq;rw[append_nil]at e;rw[e];exact zO hf
   .rw[if_neg he]at h;cases h
 .rintro⟨al,h⟩;have hF:=xU h;rw[nil_append]at hF;have:=yG hF (n:=(bN l).length+1) (q:=[]) (by omega) rfl;rw[append_nil]at this;rw[this]at hp;have hr:Rd (bN l) (po (bN l) (nI v)) []:=hp;have he:(po (bN l) (nI v)).pos=(bN l).length:=by
   have h1:=congrArg List.length hr.2.1;have h2:=hr.2.2;simp only[length_drop,length_nil]at h1;omega
  unfold nL pj;rw[if_pos he];exact hr.1
theorem OE(v:List UInt8)(ws:List ByteArray):AR (v.map bW) ws (nI v):=λ_=>⟨rfl,rfl,rfl⟩
theorem CT{v l:List UInt8}(h:(nL v l).failed=false):(nL v l).vars.map bW=Pd (v.map bW) (bN l) (bN l).length/\(nL v l).hid.map bW=nmH (bN l) (bN l).length /\
  (∃al,vM [] (bN l)=some al/\al=EU (nL v l).vars (nL v l).hid (Bu (bN l) (nI v)))/\(∀a∈Bu (bN l) (nI v),nM (nL v l).vars (nL v l).hid a)/\v <+: (nL v l).vars:=by
 obtain⟨al,jC⟩:=(Qq v l).1 h;have hF:=xU jC;rw[nil_append]at hF;have he:(po (bN l) (nI v)).pos=(bN l).length/\nL v l=po (bN l) (nI v):=by
  unfold nL pj at h ⊢;by_cases he:(po (bN l) (nI v)).pos=(bN l).length
  .rw[if_pos he];exact⟨he,rfl⟩
  .rw[if_neg he]at h;cases h
 have JZ:Rd (bN l) (nI v) (bN l++[]):=by rw[append_nil];exact PL v _
 obtain⟨al',g1,g2,g3⟩:=ad8 hF (n:=(bN l).length+1) JZ (by omega) rfl;have akP:=agI (z:=v.map bW) (ws:=bN l) (nI v) (OE v _);rw[he.2]at h ⊢;obtain⟨_,i2,i3⟩:=akP h;rw[he.1]at i2 i3;exact⟨i2.symm,i3.symm,⟨al',g1,g2⟩,g3,((Eg (bN l) (nI v)).trans (GA (bN l) ((bN l).length+1) _)).1⟩
theorem Hp{v:List UInt8}(h:v.Nodup)(h2:∀c∈v,aX (bW c)=true):oP (nI v):=⟨h,nodup_nil,h2,λc hc=>(by cases hc)⟩
theorem OZ{v:List UInt8}(h:oP (nI v))(l:List UInt8):oP (nL v l):=by
 have:=OY (ws:=bN l) h;unfold nL pj;split
 .exact this
 .exact⟨this.nv,this.nh,this.lv,this.lh⟩
def Nlt(r:List UInt8):Prop:=∀c t,r=c::t->jg c=false
def FL(x:List UInt8)(W:List (List UInt8)):Prop:=∀r,Nlt r->ju (x++r)=(ju r).map (W++·)
def wM(x:List UInt8)(W:List (List UInt8)):Prop:=∀r,ju (x++r)=(ju r).map (W++·)
section
variable {x x':List UInt8} {W W':List (List UInt8)}
theorem Ul:Nlt []:=λ_ _ h=>by cases h
theorem iT{c:UInt8}(h:jg c=false)(r:List UInt8):Nlt (c::r):=λd t e=>by injection e with e1 _;rw[<-e1];exact h
theorem zu(o:Option (List (List UInt8))):(o.map (W'++·)).map (W++·)=o.map ((W++W')++·):=by cases o <;> simp
theorem wM.app(h:wM x W)(h':FL x' W'):FL (x++x') (W++W'):=λr hr=>by rw[append_assoc,h,h' r hr,zu]
theorem FL.app(h:FL x W)(h':wM x' W')(hb:∀r,Nlt (x'++r)):wM (x++x') (W++W'):=λr=>by rw[append_assoc,h _ (hb r),h' r,zu]
theorem wM.appN(h:wM x W)(h':wM x' W'):wM (x++x') (W++W'):=λr=>by rw[append_assoc,h,h',zu]
theorem wM.sg(h:wM x W):FL x W:=λr _=>h r
theorem fe:wM [32] []:=λr=>by
 rw[show([32]:List UInt8)++r=32::r from rfl,yd 32 r (zq0 rfl)];cases ju r <;> simp
theorem aad{c:UInt8}(h:jg c=true):¬ (c=32\/c=10):=by
 rintro(rfl|rfl) <;> revert h <;> decide
theorem pU(h0:x≠[])(h:∀c∈x,jg c=true):FL x [x]:=λr hr=>by
 have ht:(x++r).takeWhile jg=x:=by
  rw[takeWhile_append_of_pos h];cases r with
  |nil=>simp
  |cons c t=>rw[takeWhile_cons,hr c t rfl];simp
 cases x with
 |nil=>exact absurd rfl h0
 |cons c t =>
  have hl:bB (c::t++r)=(c::t).length:=by unfold bB;rw[ht]
  have hw:bn (c::t++r)=(c::t).length:=by unfold bn;rw[hl,if_pos (by simp)]
  rw[cons_append]at hw ⊢;rw[pW c (t++r) (aad (h c (by simp))) (by rw[hw];simp),hw];rw[show(c::(t++r)).drop (c::t).length=r by rw[<-cons_append,drop_left],show(c::(t++r)).take (c::t).length=c::t by rw[<-cons_append,take_left]];rfl
theorem mp{c:UInt8}(h1:jg c=false)(h2:c≠45)(h3:c≠33)(h4:x9 c.toNat=true)(h5:¬ (c=32\/c=10)):wM [c] [[c]]:=λr=>by
 have hl:¬ 0<bB (c::r):=by unfold bB;rw[takeWhile_cons,h1];simp
 have h6:¬ ((c::r).take 2=[45,62]\/(c::r).take 2=[33,61]):=by
  rw[take_succ_cons];rintro(e|e) <;> injection e with e _
  .exact h2 e
  .exact h3 e
 have hw:bn (c::r)=1:=by
  unfold bn;rw[if_neg hl,if_neg h6];show(if x9 c.toNat=true then 1 else 0)=1;rw[h4];rfl
 rw[show [c]++r=c::r from rfl,pW c r h5 (by rw[hw];simp),hw];rfl
theorem Iz{c d:UInt8}(h1:jg c=false)(h2:[c,d]=[45,62]\/[c,d]=[33,61])(h5:¬ (c=32\/c=10)):wM [c,d] [[c,d]]:=λr=>by
 have hl:¬ 0<bB (c::d::r):=by unfold bB;rw[takeWhile_cons,h1];simp
 have hw:bn (c::d::r)=2:=by
  unfold bn;rw[if_neg hl,if_pos (by simpa using h2)]
 rw[show [c,d]++r=c::d::r from rfl,pW c (d::r) h5 (by rw[hw];simp),hw];rfl
theorem aa9:wM [32,61,32] [[61]]:=(fe.appN (mp (c:=61) (by decide) (by decide) (by decide) (by decide) (by decide))).appN fe
theorem abc:wM [32,42,32] [[42]]:=(fe.appN (mp (c:=42) (by decide) (by decide) (by decide) (by decide) (by decide))).appN fe
theorem abb:wM [32,33,61,32] [[33,61]]:=(fe.appN (Iz (c:=33) (d:=61) (by decide) (zq1 rfl) (by decide))).appN fe
theorem aa6:wM [32,45,62,32] [[45,62]]:=(fe.appN (Iz (c:=45) (d:=62) (by decide) (zq0 rfl) (by decide))).appN fe
theorem aba:wM [108,115,40] [[108,115],[40]]:=(pU (x:=[108,115]) (by simp) (by decide)).app (mp (c:=40) (by decide) (by decide) (by decide) (by decide) (by decide)) (λr=>iT (by decide) r)
theorem aa8:wM [44] [[44]]:=mp (by decide) (by decide) (by decide) (by decide) (by decide)
theorem aa7:wM [41] [[41]]:=mp (by decide) (by decide) (by decide) (by decide) (by decide)
def bA(x:List UInt8):ByteArray:=⟨x.toArray⟩
structure Nw(x:List UInt8):Prop where
 sg:FL x [x]
 ne:x≠[]
 nb:dl (bA x)=true
theorem aaC:Nw [110,105,108]:=⟨pU (by simp) (by decide),by simp,by unfold dl;rw[show bA [110,105,108]=fy from rfl,bt];rfl⟩
theorem Pf{c:UInt8}(h:aX (bW c)=true):Nw [c]:=by
 have h2:gq c.toNat=true:=h;refine⟨pU (by simp) (λd hd=>?_),by simp,?_⟩
 .rw[mem_singleton.1 hd];unfold jg;rw[h2];rfl
 .have:aX (bA [c])=true:=h;unfold dl;rw[this];simp
theorem agR{c:UInt8}(h:lz (bW c)=true):Nw [c]:=by
 have h2:jB c.toNat=true:=h;refine⟨pU (by simp) (λd hd=>?_),by simp,?_⟩
 .rw[mem_singleton.1 hd];unfold jg;rw[h2];simp
 .have:lz (bA [c])=true:=h;unfold dl;rw[this];simp
def w3(x k y:List UInt8):List (List UInt8):=[x,k,y]
def w6(x y:List UInt8):List (List UInt8):=[[108,115],[40],x,[44],y,[41]]
theorem abe(h:Nw x)(h':Nw x'):FL (lC x x') (w3 x [61] x'):=(h.sg.app aa9 (λr=>iT (by decide) _)).app h'.sg
theorem abd(h:Nw x)(h':Nw x'):FL (Jg x x') (w3 x [45,62] x'):=(h.sg.app aa6 (λr=>iT (by decide) _)).app h'.sg
theorem P3(h:Nw x)(h':Nw x'):FL (x++[32,33,61,32]++x') (w3 x [33,61] x'):=(h.sg.app abb (λr=>iT (by decide) _)).app h'.sg
theorem abf(h:Nw x)(h':Nw x'):FL (Ho x x') (w6 x x'):=by
 unfold Ho;exact((((aba.app h.sg).app aa8 (λr=>iT (by decide) _)).app h'.sg).app aa7 (λr=>iT (by decide) _)).sg
def K4:List (List (List UInt8))->List (List UInt8)
 |[]=>[]
 |[p]=>p
 |p::q::r=>p++[42]::K4 (q::r)
theorem G5:∀(Ps:List (List (List UInt8))) (p:List (List UInt8)),Ps≠[]->K4 (Ps++[p])=K4 Ps++[42]::p
 |[],_,h=>absurd rfl h
 |[q],p,_=>rfl
 |q::q'::r,p,_=>by
  show q++[42]::K4 (q'::r++[p])=(q++[42]::K4 (q'::r))++[42]::p;rw[G5 (q'::r) p (by simp)];simp
def Jb(t:List UInt8)(Ps:List (List (List UInt8))):Prop:=(t=[]/\Ps=[])\/(t≠[]/\Ps≠[]/\FL t (K4 Ps))
theorem Jb.step{t a:List UInt8}{Ps:List (List (List UInt8))}{p:List (List UInt8)}(h:Jb t Ps)(ha:FL a p)(aJ:a≠[]):Jb (rs t a) (Ps++[p]):=by
 unfold rs;rcases h with⟨rfl,rfl⟩|⟨h1,h2,h3⟩
 .rw[if_pos rfl];exact zq1 ⟨aJ,by simp,ha⟩
 .rw[if_neg h1];refine zq1 ⟨by simp[h1],by simp,?_⟩;rw[G5 _ _ h2];have:=(h3.app abc (λr=>iT (by decide) _)).app ha;simpa using this
theorem Jb.fold{α:Type}{g:List UInt8->α->List UInt8}{P:α->List (List (List UInt8))}:∀(l:List α),(∀t Ps x,x∈l->Jb t Ps->Jb (g t x) (Ps++P x))->∀{t:List UInt8} {Ps:List (List (List UInt8))},Jb t Ps->Jb (l.foldl g t) (Ps++l.flatMap P)
 |[],_,_,_,h=>by simpa using h
 |a::l,hg,t,Ps,h=>by
  rw[foldl_cons,flatMap_cons,<-append_assoc];exact Jb.fold l (λt Ps x hx=>hg t Ps x (mem_cons_of_mem _ hx)) (hg t Ps a mem_cons_self h)
end
section
variable {vs:List UInt8} {f:CF}
def pcV(vs:List UInt8)(f:CF)(i:Nat):List (List (List UInt8)):=if (dx vs f).getD (f.cl.getD (1+i) 0) []=[vs.getD i 0] then [] else [w3 [vs.getD i 0] [61] ((dx vs f).getD (f.cl.getD (1+i) 0) [])]
def pcA(vs:List UInt8)(f:CF)(p:Pr):List (List UInt8):=if (dx vs f).getD p.l []=[110,105,108] then w3 ((dx vs f).getD p.r []) [33,61] ((dx vs f).getD p.l []) else w3 ((dx vs f).getD p.l []) [33,61] ((dx vs f).getD p.r [])
def pcO(vs:List UInt8)(f:CF)(p:Pr):List (List UInt8):=if p.k=4 then w6 ((dx vs f).getD p.l []) ((dx vs f).getD p.r []) else w3 ((dx vs f).getD p.l []) [45,62] ((dx vs f).getD p.r [])
def pcs(vs:List UInt8)(f:CF):List (List (List UInt8)):=(range vs.length).flatMap (pcV vs f)++f.ap.flatMap (λp=>[pcA vs f p])++f.ow.flatMap (λp=>[pcO vs f p])
theorem abA(hn:∀c,c<24->Nw ((dx vs f).getD c []))(hv:∀i,i<vs.length->Nw [vs.getD i 0])(hF:am f):Jb (wr3 vs f) (pcs vs f):=by
 unfold wr3 pcs;refine Jb.fold _ (λt Ps p hp h=>?_) (Jb.fold _ (λt Ps p hp h=>?_) ?_)
 .have h1:=hn p.l (hF.ow p hp).1;have h2:=hn p.r (hF.ow p hp).2;unfold KC pcO;split
  .exact h.step (abf h1 h2) (by simp[Ho])
  .exact h.step (abd h1 h2) (by simp[Jg])
 .have h1:=hn p.l (hF.ap p hp).1;have h2:=hn p.r (hF.ap p hp).2;unfold KB pcA K8;split
  .exact h.step (P3 h2 h1) (by simp)
  .exact h.step (P3 h1 h2) (by simp)
 .have:=Jb.fold (g:=Fx vs f (dx vs f)) (P:=pcV vs f) (range vs.length) (λt Ps i hi h=>by
   have hi:=mem_range.1 hi;unfold Fx pcV;split
   .simpa using h
   .exact h.step (abe (hv i hi) (hn _ (hF.get _))) (by simp[lC])) (t:=[]) (Ps:=[]) (zq0 ⟨rfl,rfl⟩)
  simpa using this
end
theorem E8:∀(Ps:List (List (List UInt8))),Ps≠[]->(∀p∈Ps,sm (p.map bA)=true)->oX ((K4 Ps).map bA)/\vM [] ((K4 Ps).map bA)=some (Ps.flatMap (λp=>Rh (p.map bA)))
 |[],h,_=>absurd rfl h
 |[p],_,hp=>by
  have h1:=hp p (by simp);refine⟨oX.one h1,?_⟩;have:=mL (iq h1) [] [];rw[append_nil]at this;show vM [] (p.map bA)=_;rw[this];simp[vM,h1]
 |p::q::r,_,hp=>by
  have h1:=hp p (by simp);obtain⟨g1,g2⟩:=E8 (q::r) (by simp) (λx hx=>hp x (by simp at hx ⊢;exact zq1 hx));have e:(K4 (p::q::r)).map bA=p.map bA++cJ::(K4 (q::r)).map bA:=by
   show(p++[42]::K4 (q::r)).map bA=_;rw[map_append];rfl
  rw[e];refine⟨oX.more h1 g1,?_⟩;rw[mL (iq h1)];simp only[vM,nil_append,bt,if_true,if_pos h1,g2];simp
theorem Ir{x k y:List UInt8}(hx:Nw x)(hy:Nw y)(hk:k=[61]\/k=[33,61]\/k=[45,62]):sm ((w3 x k y).map bA)=true:=by
 show(dl (bA x)&&dl (bA y)&&(bO (bA k) bV||bO (bA k) dN||bO (bA k) kS))=true;rw[hx.nb,hy.nb];rcases hk with rfl|rfl|rfl
 .rw[show bA [61]=bV from rfl,bt];rfl
 .rw[show bA [33,61]=dN from rfl,bt];simp
 .rw[show bA [45,62]=kS from rfl,bt];simp
theorem ag2{x y:List UInt8}(hx:Nw x)(hy:Nw y):sm ((w6 x y).map bA)=true:=by
 show(bO (bA [108,115]) jU&&bO (bA [40]) Xd&&bO (bA [44]) Sj&&bO (bA [41]) QU&&(dl (bA x)&&dl (bA y)))=true;rw[hx.nb,hy.nb,show bA [108,115]=jU from rfl,show bA [40]=Xd from rfl,show bA [44]=Sj from rfl,show bA [41]=QU from rfl,bt,bt,bt,bt];rfl
section
variable {vs:List UInt8} {f:CF}
def Yj(vs:List UInt8)(f:CF)(i:Nat):List oQ:=if (dx vs f).getD (f.cl.getD (1+i) 0) []=[vs.getD i 0] then [] else [⟨bV,bA [vs.getD i 0],bA ((dx vs f).getD (f.cl.getD (1+i) 0) [])⟩]
def Sv(vs:List UInt8)(f:CF)(p:Pr):oQ:=if (dx vs f).getD p.l []=[110,105,108] then ⟨dN,bA ((dx vs f).getD p.r []),bA ((dx vs f).getD p.l [])⟩ else ⟨dN,bA ((dx vs f).getD p.l []),bA ((dx vs f).getD p.r [])⟩
def Gk(vs:List UInt8)(f:CF)(p:Pr):oQ:=⟨if p.k=4 then jU else kS,bA ((dx vs f).getD p.l []),bA ((dx vs f).getD p.r [])⟩
def MH(vs:List UInt8)(f:CF):List oQ:=(range vs.length).flatMap (Yj vs f)++f.ap.map (Sv vs f)++f.ow.map (Gk vs f)
theorem Uu:(pcs vs f).flatMap (λp=>Rh (p.map bA))=MH vs f:=by
 have e1:((range vs.length).flatMap (pcV vs f)).flatMap (λp=>Rh (p.map bA))=(range vs.length).flatMap (Yj vs f):=by
  rw[flatMap_assoc];refine congrArg (λg=>(range vs.length).flatMap g) (funext λi=>?_);unfold pcV Yj;split <;> rfl
 have e2:(f.ap.flatMap (λp=>[pcA vs f p])).flatMap (λp=>Rh (p.map bA))=f.ap.map (Sv vs f):=by
  rw[flatMap_assoc,map_eq_flatMap];refine congrArg (λg=>f.ap.flatMap g) (funext λp=>?_);unfold pcA Sv;split <;> rfl
 have e3:(f.ow.flatMap (λp=>[pcO vs f p])).flatMap (λp=>Rh (p.map bA))=f.ow.map (Gk vs f):=by
  rw[flatMap_assoc,map_eq_flatMap];refine congrArg (λg=>f.ow.flatMap g) (funext λp=>?_);unfold pcO Gk;split <;> rfl
 unfold pcs MH;rw[flatMap_append,flatMap_append,e1,e2,e3]
theorem Vk(hn:∀c,c<24->Nw ((dx vs f).getD c []))(hv:∀i,i<vs.length->Nw [vs.getD i 0])(hF:am f):ju (qe vs f)≠none/\vM [] (bN (qe vs f))=some (MH vs f):=by
 have hr:∀{t:List UInt8} {W:List (List UInt8)},FL t W->ju t=some W:=fun {t W} h=>by
  have:=h [] Ul;rw[append_nil]at this;rw[this];simp[IG]
 have key:∀{W:List (List UInt8)},ju (qe vs f)=some W->ju (qe vs f)≠none/\bN (qe vs f)=W.map bA:=fun {W} h=>⟨by rw[h];simp,by unfold bN;rw[h];rfl⟩
 have hT:=abA hn hv hF;rw[<-Uu];rcases hT with⟨h1,h2⟩|⟨h1,h2,h3⟩
 .have e:qe vs f=[101,109,112]:=by unfold qe;rw[if_pos h1]
  obtain⟨k1,k2⟩:=key (W:=[[101,109,112]]) (by rw[e];exact hr (pU (by simp) (by decide)));refine⟨k1,?_⟩;rw[k2,h2];exact(E8 [[[101,109,112]]] (by simp) (λp hp=>by rw[mem_singleton.1 hp];exact bt _)).2
 .have e:qe vs f=wr3 vs f:=by unfold qe;rw[if_neg h1]
  obtain⟨k1,k2⟩:=key (W:=K4 (pcs vs f)) (by rw[e];exact hr h3);refine⟨k1,?_⟩;rw[k2];refine(E8 _ h2 (λp hp=>?_)).2;unfold pcs at hp;rw[mem_append,mem_append,mem_flatMap,mem_flatMap,mem_flatMap]at hp;rcases hp with(⟨i,hi,hp⟩|⟨q,hq,hp⟩)|⟨q,hq,hp⟩
  .unfold pcV at hp;split at hp
   .simp at hp
   .rw[mem_singleton.1 hp];exact Ir (hv i (mem_range.1 hi)) (hn _ (hF.get _)) (zq0 rfl)
  .rw[mem_singleton.1 hp];unfold pcA;split
   .exact Ir (hn _ (hF.ap q hq).2) (hn _ (hF.ap q hq).1) (zq1 (zq0 rfl))
   .exact Ir (hn _ (hF.ap q hq).1) (hn _ (hF.ap q hq).2) (zq1 (zq0 rfl))
  .rw[mem_singleton.1 hp];unfold pcO;split
   .exact ag2 (hn _ (hF.ow q hq).1) (hn _ (hF.ow q hq).2)
   .exact Ir (hn _ (hF.ow q hq).1) (hn _ (hF.ow q hq).2) (zq1 (zq1 rfl))
end
def zB:List UInt8:=[110,105,108]
section
variable {vs:List UInt8} {f:CF}
theorem EQ:∀(n:Nat) (N:List (List UInt8)) (c:Nat),N.length=24->c<24 ->
  (∃i,i<n/\f.cl.getD (1+i) 0=c/\(Ds vs f n N).getD c []=[vs.getD i 0])\/((∀i,i<n->f.cl.getD (1+i) 0≠c)/\(Ds vs f n N).getD c []=N.getD c [])
 |0,N,c,_,_=>zq1 ⟨λi hi=>by omega,rfl⟩
 |n+1,N,c,hN,hc=>by
  unfold Ds;rcases EQ n (naS vs f n N) c (by simp[naS,hN]) hc with⟨i,h1,h2,h3⟩|⟨h1,h2⟩
  .exact zq0 ⟨i,by omega,h2,h3⟩
  .by_cases e:f.cl.getD (1+n) 0=c
   .refine zq0 ⟨n,by omega,e,?_⟩;rw[h2];unfold naS;rw[e,aU _ _ _ _ _ (by rw[hN];exact hc),if_pos rfl]
   .refine zq1 ⟨λi hi=>?_,?_⟩
    .by_cases oj:i=n
     .rw[oj];exact e
     .exact h1 i (by omega)
    .rw[h2];unfold naS;by_cases hl:f.cl.getD (1+n) 0<N.length
     .rw[aU _ _ _ _ _ hl,if_neg e]
     .rw[set_eq_of_length_le (by omega)]
theorem YD:∀i,i<26->∀j,j<26->BC.getD i 0=BC.getD j 0->i=j:=by decide
theorem V6:∀i,i<26->lz (bW (BC.getD i 0))=true:=by decide
theorem O5(N0:List (List UInt8))(h0:N0.length=24):∀(m:Nat),m<=24->((range m).foldl q7 (N0,0)).1.length=24/\((range m).foldl q7 (N0,0)).2<=m /\
  (∀c,N0.getD c []≠[]\/m<=c->((range m).foldl q7 (N0,0)).1.getD c []=N0.getD c [])/\(∀c,c<m->N0.getD c []=[]->∃j,j<((range m).foldl q7 (N0,0)).2/\((range m).foldl q7 (N0,0)).1.getD c []=[BC.getD j 0]) /\
  (∀c d,c<m->d<m->N0.getD c []=[]->N0.getD d []=[]->((range m).foldl q7 (N0,0)).1.getD c []=((range m).foldl q7 (N0,0)).1.getD d []->c=d)
 |0,_=>⟨h0,zq4 _,λ_ _=>rfl,λc hc=>by omega,λc d hc=>by omega⟩
 |m+1,hm=>by
  obtain⟨g1,g2,g3,g4,g5⟩:=O5 N0 h0 m (by omega);rw[range_succ,foldl_append];generalize (range m).foldl q7 (N0,0)=r at g1 g2 g3 g4 g5;show(q7 r m).1.length=24/\(q7 r m).2<=m+1/\(∀c,N0.getD c []≠[]\/m+1<=c->(q7 r m).1.getD c []=N0.getD c [])/\(∀c,c<m+1->N0.getD c []=[]->∃j,j<(q7 r m).2/\(q7 r m).1.getD c []=[BC.getD j 0])/\(∀c d,c<m+1->d<m+1->N0.getD c []=[]->N0.getD d []=[]->(q7 r m).1.getD c []=(q7 r m).1.getD d []->c=d);have em:=g3 m (zq1 (zq4 _));unfold q7;by_cases e:r.1.getD m []=[]
  .rw[if_pos e];have hs:∀c,(r.1.set m [BC.getD r.2 0]).getD c []=if m=c then [BC.getD r.2 0] else r.1.getD c []:=λc=>aU _ _ _ _ _ (by rw[g1];omega)
   have key:∀c,c<m->N0.getD c []=[]->r.1.getD c []≠[BC.getD r.2 0]:=λc hc h1 h2=>by
    obtain⟨j,k1,k2⟩:=g4 c hc h1;rw[k2]at h2;injection h2 with h2 _;have:=YD j (by omega) r.2 (by omega) h2;omega
   refine⟨by rw[length_set];exact g1,by show r.2+1<=m+1;omega,λc hc=>?_,λc hc h1=>?_,λc d hc hd h1 h2 h3=>?_⟩
   .show(r.1.set m _).getD c []=_;rw[hs];have:m≠c:=by
     rintro rfl;rcases hc with hc|hc
     .exact hc (by rw[<-em];exact e)
     .omega
    rw[if_neg this];exact g3 c (by rcases hc with hc|hc;exact zq0 hc;exact zq1 (by omega))
   .show ∃j,j<r.2+1/\(r.1.set m _).getD c []=_;rw[hs];by_cases kj:m=c
    .exact⟨r.2,by omega,by rw[if_pos kj]⟩
    .obtain⟨j,k1,k2⟩:=g4 c (by omega) h1;exact⟨j,by omega,by rw[if_neg kj];exact k2⟩
   .have h3:(r.1.set m [BC.getD r.2 0]).getD c []=(r.1.set m [BC.getD r.2 0]).getD d []:=h3;rw[hs,hs]at h3;by_cases kj:m=c
    .by_cases hdm:m=d
     .omega
     .rw[if_pos kj,if_neg hdm]at h3;exact absurd h3.symm (key d (by omega) h2)
    .rw[if_neg kj]at h3;by_cases hdm:m=d
     .rw[if_pos hdm]at h3;exact absurd h3 (key c (by omega) h1)
     .rw[if_neg hdm]at h3;exact g5 c d (by omega) (by omega) h1 h2 h3
  .rw[if_neg e];have aJ:N0.getD m []≠[]:=(by rw[<-em];exact e);refine⟨g1,by omega,λc hc=>?_,λc hc h1=>?_,λc d hc hd h1 h2 h3=>?_⟩
   .exact g3 c (by rcases hc with hc|hc;exact zq0 hc;exact zq1 (by omega))
   .have:c≠m:=(by rintro rfl;exact aJ h1);exact g4 c (by omega) h1
   .have:c≠m:=(by rintro rfl;exact aJ h1);have:d≠m:=(by rintro rfl;exact aJ h2);exact g5 c d (by omega) (by omega) h1 h2 h3
def Frc(vs:List UInt8)(f:CF)(c:Nat):Prop:=c≠f.cl.getD 0 0/\∀i,i<vs.length->f.cl.getD (1+i) 0≠c
theorem mf(hF:am f):(∀c,c<24->(c=f.cl.getD 0 0/\(dx vs f).getD c []=zB)\/(c≠f.cl.getD 0 0/\∃i,i<vs.length/\f.cl.getD (1+i) 0=c/\(dx vs f).getD c []=[vs.getD i 0])\/(Frc vs f c/\∃j,j<26/\(dx vs f).getD c []=[BC.getD j 0])) /\
  ∀c d,c<24->d<24->Frc vs f c->Frc vs f d->(dx vs f).getD c []=(dx vs f).getD d []->c=d:=by
 have hL:(Ds vs f vs.length (replicate 24 [])).length=24:=by rw[Hw];simp
 have Eh:=hF.get 0;obtain⟨N0,Nh⟩:∃N0,N0=(Ds vs f vs.length (replicate 24 [])).set (f.cl.getD 0 0) zB:=⟨_,rfl⟩;have Y7:∀c,N0.getD c []=if f.cl.getD 0 0=c then zB else (Ds vs f vs.length (replicate 24 [])).getD c []:=λc=>by rw[Nh];exact aU _ _ _ _ _ (by rw[hL];exact Eh)
 have J0:∀c,(replicate 24 ([]:List UInt8)).getD c []=[]:=λc=>by
  rw[getD_eq_getElem?_getD,getElem?_replicate];split <;> rfl
 obtain⟨g1,g2,g3,g4,g5⟩:=O5 N0 (by rw[Nh,length_set];exact hL) 24 (zq4 _);have hM:dx vs f=((range 24).foldl q7 (N0,0)).1:=by rw[Nh];rfl
 rw[<-hM]at g3 g4 g5;have ir:∀c,c<24->Frc vs f c->N0.getD c []=[]:=λc hc h=>by
  rw[Y7,if_neg (λe=>h.1 e.symm)];rcases EQ (vs:=vs) (f:=f) vs.length (replicate 24 []) c (by simp) hc with⟨i,h1,h2,-⟩|⟨-,h2⟩
  .exact absurd h2 (h.2 i h1)
  .rw[h2];exact J0 c
 refine⟨λc hc=>?_,λc d hc hd h1 h2 h3=>g5 c d hc hd (ir c hc h1) (ir d hd h2) h3⟩;by_cases e0:f.cl.getD 0 0=c
 .have h1:N0.getD c []=zB:=by rw[Y7,if_pos e0]
  exact zq0 ⟨e0.symm,by rw[g3 c (zq0 (by rw[h1];simp[zB])),h1]⟩
 .rcases EQ (vs:=vs) (f:=f) vs.length (replicate 24 []) c (by simp) hc with⟨i,h1,h2,h3⟩|⟨h1,h2⟩
  .have h4:N0.getD c []=[vs.getD i 0]:=(by rw[Y7,if_neg e0,h3]);exact zq1 (zq0 ⟨λe=>e0 e.symm,i,h1,h2,by rw[g3 c (zq0 (by rw[h4];simp)),h4]⟩)
  .have h4:N0.getD c []=[]:=(by rw[Y7,if_neg e0,h2];exact J0 c);obtain⟨j,k1,k2⟩:=g4 c hc h4;exact zq1 (zq1 ⟨⟨λe=>e0 e.symm,h1⟩,j,by omega,k2⟩)
def Kn(vs:List UInt8)(f:CF)(x:List UInt8)(c:Nat):Prop:=(x=zB/\c=f.cl.getD 0 0)\/(∃i,i<vs.length/\x=[vs.getD i 0]/\c=f.cl.getD (1+i) 0)\/(∃j,j<26/\x=[BC.getD j 0]/\c<24/\Frc vs f c/\(dx vs f).getD c []=x)
theorem OU{c:UInt8}(h:aX (bW c)=true){j:Nat}(hj:j<26):c≠BC.getD j 0:=by
 rintro rfl;have h1:=V6 j hj;have h2:=qY _ h;rw[h2]at h1;cases h1
theorem zC{l:List UInt8}(h:l.Nodup){i j:Nat}(hi:i<l.length)(hj:j<l.length)(e:l.getD i 0=l.getD j 0):i=j:=by
 have h1:=Ij h hi;have h2:=Ij h hj;rw[e]at h1;omega
theorem jr{l:List UInt8}{i:Nat}(hi:i<l.length):l.getD i 0∈l:=by
 rw[getD_eq_getElem?_getD,getElem?_eq_getElem hi];exact getElem_mem hi
theorem EY{a b:UInt8}{x:List UInt8}(h:x=[a])(h':x=[b]):a=b:=by
 rw[h]at h';injection h'
theorem sV{a:UInt8}{x:List UInt8}(h:x=zB)(h':x=[a]):False:=by
 rw[h]at h';have:=congrArg List.length h';simp[zB]at this
theorem Kn.fn(hF:am f)(hn:vs.Nodup)(hl:∀c∈vs,aX (bW c)=true){x:List UInt8}{c d:Nat}(h:Kn vs f x c)(h':Kn vs f x d):c=d:=by
 rcases h with⟨h1,h2⟩|⟨i,h1,h2,h3⟩|⟨j,h1,h2,h3,h4,h5⟩ <;> rcases h' with⟨k1,k2⟩|⟨i',k1,k2,k3⟩|⟨j',k1,k2,k3,k4,k5⟩
 .rw[h2,k2]
 .exact(sV h1 k2).elim
 .exact(sV h1 k2).elim
 .exact(sV k1 h2).elim
 .rw[h3,k3,zC hn h1 k1 (EY h2 k2)]
 .exact absurd (EY h2 k2) (OU (hl _ (jr h1)) k1)
 .exact(sV k1 h2).elim
 .exact absurd (EY k2 h2) (OU (hl _ (jr k1)) h1)
 .exact(mf hF).2 c d h3 k3 h4 k4 (by rw[h5,k5])
theorem agH(hF:am f){c:Nat}(hc:c<24):Kn vs f ((dx vs f).getD c []) c:=by
 rcases(mf (vs:=vs) hF).1 c hc with⟨h1,h2⟩|⟨-,i,h1,h2,h3⟩|⟨h1,j,h2,h3⟩
 .exact zq0 ⟨h2,h1⟩
 .exact zq1 (zq0 ⟨i,h1,h3,h2.symm⟩)
 .exact zq1 (zq1 ⟨j,h2,h3,hc,h1,rfl⟩)
theorem agQ(hF:am f)(hl:∀c∈vs,aX (bW c)=true){c:Nat}(hc:c<24):Nw ((dx vs f).getD c []):=by
 rcases(mf (vs:=vs) hF).1 c hc with⟨-,h2⟩|⟨-,i,h1,-,h3⟩|⟨-,j,h2,h3⟩
 .rw[h2];exact aaC
 .rw[h3];exact Pf (hl _ (jr h1))
 .rw[h3];exact agR (V6 j h2)
end
theorem zW{s:PS}(hs:oP s){k i k' i':Nat}(h:KE s.vars s.hid k i)(h':KE s.vars s.hid k' i')(e:Dw s.vars s.hid k i=Dw s.vars s.hid k' i'):nj k i=nj k' i':=by
 have one_inj:∀{c d:UInt8},bW c=bW d->c=d:=fun {c d} h=>by
  have:(bW c).data.toList=(bW d).data.toList:=by rw[h]
  injection this
 have v1:∀{i:Nat},i<s.vars.length->aX (bW (s.vars.getD i 0))=true:=λhi=>hs.lv _ (jr hi);have v2:∀{i:Nat},i<s.hid.length->lz (bW (s.hid.getD i 0))=true:=λhi=>hs.lh _ (jr hi);have n1:∀{c:UInt8},bW c≠fy:=fun {c} h=>by
  have:(bW c).data.toList=fy.data.toList:=by rw[h]
  simp[bW,fy]at this
 have e1:∀{k i:Nat},k<=2->k=0\/k=1\/k=2:=λh=>by omega
 rcases e1 (i:=0) h.1 with rfl|rfl|rfl <;> rcases e1 (i:=0) h'.1 with rfl|rfl|rfl
 .rfl
 .exact absurd e.symm n1
 .exact absurd e.symm n1
 .exact absurd e n1
 .have:=zC hs.nv (h.2.1 rfl) (h'.2.1 rfl) (one_inj e);rw[this]
 .have h3:=v1 (h.2.1 rfl);have e:bW (s.vars.getD i 0)=bW (s.hid.getD i' 0):=e;rw[e]at h3;have:=qY _ h3;rw[v2 (h'.2.2 rfl)]at this;cases this
 .exact absurd e n1
 .have h3:=v1 (h'.2.1 rfl);have e:bW (s.hid.getD i 0)=bW (s.vars.getD i' 0):=e;rw[<-e]at h3;have:=qY _ h3;rw[v2 (h.2.2 rfl)]at this;cases this
 .have:=zC hs.nh (h.2.2 rfl) (h'.2.2 rfl) (one_inj e);rw[this]
theorem TT{k k':Nat}(h:k<=4)(h0:k≠0)(h':k'<=4)(h0':k'≠0)(e:wq k=wq k'):k=k':=by
 have hk:k=1\/k=2\/k=3\/k=4:=by omega
 have Dn:k'=1\/k'=2\/k'=3\/k'=4:=by omega
 have e2:(wq k).data.toList=(wq k').data.toList:=by rw[e]
 rcases hk with rfl|rfl|rfl|rfl <;> rcases Dn with rfl|rfl|rfl|rfl <;> first|rfl|(simp[wq,bV,dN,kS,jU]at e2)
theorem Um{s:PS}(hs:oP s){a b:bC}(ha:nM s.vars s.hid a)(hb:nM s.vars s.hid b)(a0:a.k≠0)(b0:b.k≠0)(e:vL s.vars s.hid a=vL s.vars s.hid b):tm a=tm b:=by
 unfold vL at e;injection e with e1 e2 e3;unfold tm;rw[TT ha.1 a0 hb.1 b0 e1,zW hs ha.2.1 hb.2.1 e2,zW hs ha.2.2 hb.2.2 e3]
theorem ux{α β γ:Type}{g:α->β}{h:α->γ}{P:α->Prop}(hP:∀a b,P a->P b->g a=g b->h a=h b):∀(l l':List α),(∀a∈l,P a)->(∀a∈l',P a)->l.map g=l'.map g->l.map h=l'.map h
 |[],[],_,_,_=>rfl
 |[],_::_,_,_,e=>by simp at e
 |_::_,[],_,_,e=>by simp at e
 |a::l,b::l',h1,h2,e=>by
  rw[map_cons,map_cons]at e ⊢;injection e with e1 e2;rw[hP a b (h1 a (by simp)) (h2 b (by simp)) e1,ux hP l l' (λx hx=>h1 x (by simp[hx])) (λx hx=>h2 x (by simp[hx])) e2]
def Ud(c:List Nat)(p:Pr):List Nat:=if p.k=1 then c.map (λx=>if x=c.getD p.r 0 then c.getD p.l 0 else x) else c
def prU(c:List Nat)(p:Pr):Pr:=⟨p.k,c.getD p.l 0,c.getD p.r 0⟩
def cfT(L:List Pr):CF:=⟨(L.foldl Ud (range 13)).take 5,(L.filter (λp=>p.k==2)).map (prU (L.foldl Ud (range 13))),(L.filter (λp=>p.k==3||p.k==4)).map (prU (L.foldl Ud (range 13)))⟩
theorem VV(al:List bC):aG al=cfT ((al.filter (λa=>a.k != 0)).map tm):=by
 have hm:∀(l:List bC) (c:List Nat),l.foldl gQ c=((l.filter (λa=>a.k != 0)).map tm).foldl Ud c:=by
  intro l;induction l with
  |nil=>intro c;rfl
  |cons a l ih =>
   intro c;rw[foldl_cons,ih];by_cases h0:a.k=0
   .have e1:gQ c a=c:=(by unfold gQ;rw[if_neg (by omega)]);rw[e1,filter_cons_of_neg (by simp[h0])]
   .rw[filter_cons_of_pos (by simp[h0]),map_cons,foldl_cons];rfl
 have hf:∀(q:Nat->Bool),q 0=false->∀(m:List Nat),(al.filter (λa=>q a.k)).map (fL m)=(((al.filter (λa=>a.k != 0)).map tm).filter (λp=>q p.k)).map (prU m):=by
  intro q hq m;rw[filter_map,filter_filter,map_map];have:al.filter (λa=>q a.k)=al.filter (λa=>((λp:Pr=>q p.k) ∘ tm) a&&(a.k != 0)):=by
   apply filter_congr;intro a _;show q a.k=(q a.k&&(a.k != 0));by_cases h0:a.k=0
   .rw[h0,hq];rfl
   .simp[h0]
  rw[this];rfl
 unfold aG cfT jX;rw[<-hm al (range 13),hf (λk=>k==2) rfl,hf (λk=>k==3||k==4) rfl]
