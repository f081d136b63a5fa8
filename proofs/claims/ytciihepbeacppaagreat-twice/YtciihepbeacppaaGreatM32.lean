import Derived.Test.YtciihepbeacppaaGreatM31
set_option maxRecDepth 100000
set_option maxHeartbeats 0
namespace Go.Proofs.YtciihepbeacppaaGreat
open Tryz Go.RowKit List
set_option linter.unusedVariables false
def IP(vars hid:List UInt8)(k i:Nat):ByteArray:=if k=1 then dm (vars.getD i 0) else if k=2 then dm (hid.getD i 0) else b9
def T6(k:Nat):ByteArray:=if k=1 then bM else if k=2 then jB else if k=3 then IQ else Ce
def ZM(vars hid:List UInt8)(a:cf):xy:=⟨T6 a.k,IP vars hid a.lk a.li,IP vars hid a.rk a.ri⟩
def Pf(vars hid:List UInt8)(k i:Nat):Prop:=k<=2/\(k=1->i<vars.length)/\(k=2->i<hid.length)
def m0(s s':PS):Prop:=s.vars <+: s'.vars/\s.hid <+: s'.hid
theorem m0.refl(s:PS):m0 s s:=⟨prefix_refl _,prefix_refl _⟩
theorem m0.trans{a b c:PS}(h:m0 a b)(h2:m0 b c):m0 a c:=⟨h.1.trans h2.1,h.2.trans h2.2⟩
theorem Gc{l l':List UInt8}(h:l <+: l'){i:Nat}(hi:i<l.length):l'.getD i 0=l.getD i 0:=by
 obtain⟨t,rfl⟩:=h;simp only[getD_eq_getElem?_getD];rw[getElem?_append_left hi]
theorem pH{s s':PS}(h:m0 s s'){k i:Nat}(hb:Pf s.vars s.hid k i):IP s'.vars s'.hid k i=IP s.vars s.hid k i:=by
 unfold IP;by_cases h1:k=1
 .rw[if_pos h1,if_pos h1,Gc h.1 (hb.2.1 h1)]
 .rw[if_neg h1,if_neg h1];by_cases h2:k=2
  .rw[if_pos h2,if_pos h2,Gc h.2 (hb.2.2 h2)]
  .rw[if_neg h2,if_neg h2]
theorem Pf.gro{s s':PS}(h:m0 s s'){k i:Nat}(hb:Pf s.vars s.hid k i):Pf s'.vars s'.hid k i :=
 ⟨hb.1,λh1=>zq6 (hb.2.1 h1) h.1.length_le,λh1=>zq6 (hb.2.2 h1) h.2.length_le⟩
theorem Gg(l:List UInt8)(c:UInt8):l <+: put l c:=by
 unfold put;split
 .exact prefix_append _ _
 .exact prefix_refl _
theorem RQ{l:List UInt8}{c:UInt8}(h:plc l c<l.length):l.getD (plc l c) 0=c:=by
 induction l with
 |nil=>simp at h
 |cons a l ih =>
  have e:plc (a::l) c=if a=c then 0 else plc l c+1:=rfl
  rw[e]at h ⊢;by_cases hc:a=c
  .rw[if_pos hc];simpa using hc
  .rw[if_neg hc]at h ⊢;simpa using ih (by simpa using h)
theorem Ge(l:List UInt8)(c:UInt8):plc l c<(put l c).length/\(put l c).getD (plc l c) 0=c:=by
 have h1:=tV l c;unfold put;by_cases h:plc l c=l.length
 .rw[if_pos h,h];simp
 .rw[if_neg h];exact⟨by omega,RQ (by omega)⟩
theorem nK(ws:List ByteArray)(k:ByteArray)(s:PS):m0 s (aF ws k s):=by unfold aF;split <;> exact m0.refl s
theorem KX(ws:List ByteArray)(s:PS):m0 s (bz ws s):=by
 unfold bz;split
 .exact⟨Gg _ _,prefix_refl _⟩
 .exact m0.refl s
theorem EV(ws:List ByteArray)(s:PS):m0 s (bU ws s):=by
 unfold bU;split
 .exact m0.refl s
 .exact KX ws s
theorem qe(ws:List ByteArray)(s:PS):m0 s (eu ws s):=by
 unfold eu;split
 .exact⟨prefix_refl _,Gg _ _⟩
 .exact EV ws s
theorem EU(ws:List ByteArray)(s:PS):m0 s (eg ws s):=by
 unfold eg;split
 .exact m0.refl s
 .split
  .exact m0.refl s
  .exact nK ws _ s
theorem VK(ws:List ByteArray)(s:PS):m0 s (yF ws s) :=
 (nK ws _ s).trans ((qe ws _).trans ((nK ws _ _).trans ((qe ws _).trans (nK ws _ _))))
theorem KW(ws:List ByteArray)(s:PS):m0 s (dQ ws s):=by
 unfold dQ;split
 .exact m0.refl s
 .split
  .exact VK ws s.adv
  .exact(qe ws s).trans ((EU ws _).trans (qe ws _))
theorem Ql(ws:List ByteArray)(n:Nat):∀s,m0 s (iu ws n s).2:=by
 induction n with
 |zero=>intro s;exact m0.refl s
 |succ n ih =>
  intro s;simp only[iu];split
  .exact(KW ws s.adv).trans (ih _)
  .exact m0.refl s
theorem Gu{ws:List ByteArray}{s:PS}{x:ByteArray}{r:List ByteArray}(h:Rd ws s (x::r))(hx:fN x=true):
  IP (eu ws s).vars (eu ws s).hid (rz ws s) (ry ws s)=x/\Pf (eu ws s).vars (eu ws s).hid (rz ws s) (ry ws s)/\Rd ws (eu ws s) r:=by
 have lO:Rd ws (eu ws s) r:=by
  have:=qw.ok s _ h;rw[iU.2 ⟨x,hx,rfl⟩]at this;exact this
 have Cb:=wT h;have Jc:bH ws jg s=aV x jg:=cV tB h;by_cases hu:jH x=true
 .have hK:rz ws s=2:=by unfold rz;rw[Cb,if_pos hu]
  have hI:ry ws s=plc s.hid (zE x):=by unfold ry;rw[Cb,if_pos hu]
  have hS:(eu ws s).hid=put s.hid (zE x):=by unfold eu;rw[Cb,if_pos hu]
  have hp:=Ge s.hid (zE x);refine⟨?_,?_,lO⟩
  .rw[hK,hI,hS];unfold IP;rw[if_neg (by decide),if_pos rfl,hp.2];exact(DX hu).symm
  .rw[hK,hI,hS];exact⟨by omega,λh=>by omega,λ_=>hp.1⟩
 .have hK:rz ws s=du ws s:=by unfold rz;rw[Cb,if_neg hu]
  have hI:ry ws s=d7 ws s:=by unfold ry;rw[Cb,if_neg hu]
  have hS:eu ws s=bU ws s:=by unfold eu;rw[Cb,if_neg hu]
  by_cases hn:aV x jg=true
  .have hK2:du ws s=0:=(by unfold du;rw[Jc,if_pos hn]);have bX:d7 ws s=0:=(by unfold d7;rw[Jc,if_pos hn]);refine⟨?_,?_,lO⟩
   .rw[hK,hI,hK2,bX];unfold IP;rw[if_neg (by decide),if_neg (by decide)];exact(aZ.1 hn).symm
   .rw[hK,hI,hK2,bX];exact⟨by omega,λh=>by omega,λh=>by omega⟩
  .have hl:aI x=true:=by
    simp only[fN,Bool.or_eq_true]at hx;rcases hx with(hx|hx)|hx
    .exact absurd hx hn
    .exact hx
    .exact absurd hx hu
   have hK2:du ws s=1:=(by unfold du;rw[Jc,if_neg hn]);have bX:d7 ws s=plc s.vars (zE x):=(by unfold d7;rw[Jc,if_neg hn];unfold lq;rw[Cb,if_pos hl]);have bO:(eu ws s).vars=put s.vars (zE x):=(by rw[hS];unfold bU;rw[Jc,if_neg hn];unfold bz;rw[Cb,if_pos hl]);have hp:=Ge s.vars (zE x);refine⟨?_,?_,lO⟩
   .rw[hK,hI,hK2,bX,bO];unfold IP;rw[if_pos rfl,hp.2];exact(yG hl).symm
   .rw[hK,hI,hK2,bX,bO];exact⟨by omega,λ_=>hp.1,λh=>by omega⟩
theorem Yc{ws:List ByteArray}{s:PS}{x:ByteArray}{r:List ByteArray}(h:Rd ws s (x::r))(hx:(aV x bM||aV x jB||aV x IQ)=true):
  T6 (iX ws s)=x/\(1<=iX ws s/\iX ws s<=3)/\Rd ws (eg ws s) r:=by
 have lO:Rd ws (eg ws s) r:=by
  have:=yV.ok s _ h;rw[qv.2 ⟨x,hx,rfl⟩]at this;exact this
 have h1:bH ws fQ s=aV x fQ:=cV nj h;have h2:bH ws qR s=aV x qR:=cV AU h;by_cases e1:aV x fQ=true
 .have:iX ws s=1:=by unfold iX;rw[h1,if_pos e1]
  rw[this];exact⟨(aZ.1 e1).symm,by omega,lO⟩
 .by_cases e2:aV x qR=true
  .have:iX ws s=2:=(by unfold iX;rw[h1,if_neg e1,h2,if_pos e2]);rw[this];exact⟨(aZ.1 e2).symm,by omega,lO⟩
  .have:iX ws s=3:=(by unfold iX;rw[h1,if_neg e1,h2,if_neg e2]);rw[this];simp only[Bool.or_eq_true]at hx;rcases hx with(hx|hx)|hx
   .exact absurd hx e1
   .exact absurd hx e2
   .exact⟨(aZ.1 hx).symm,by omega,lO⟩
theorem Tj{ws:List ByteArray}{s:PS}{k:ByteArray}{r:List ByteArray}(hk:k.toList≠[])(h:Rd ws s (k::r)):Rd ws (aF ws k s) r:=by
 have:=(cP (ws:=ws) hk).ok s _ h;rw[pq]at this;exact this
def uW(vars hid:List UInt8)(a:cf):Prop:=a.k<=4/\Pf vars hid a.lk a.li/\Pf vars hid a.rk a.ri
def M5(vars hid:List UInt8)(l:List cf):List xy:=(l.filter (λa=>a.k != 0)).map (ZM vars hid)
theorem Ta{ws:List ByteArray}{s:PS}{p q:List ByteArray}(h:Rd ws s (p++q))(hp:vF p=true):
  pce p=M5 (dQ ws s).vars (dQ ws s).hid [oy ws s]/\uW (dQ ws s).vars (dQ ws s).hid (oy ws s)/\Rd ws (dQ ws s) q:=by
 have lO:Rd ws (dQ ws s) q:=by
  have:=lZ.ok s _ h;rw[iS.2 ⟨p,hp,rfl⟩]at this;exact this
 match p,hp with
 |[a],hp =>
  have ea:a=oB:=aZ.1 (show aV a oB=true from hp);subst ea;have Jc:bH ws nP s=true:=by
   rw[cV yw h];exact aT _
  have hA:oy ws s=⟨0,0,0,0,0⟩:=by unfold oy;rw[if_pos Jc]
  rw[hA];exact⟨rfl,⟨by show 0<=4;omega,⟨by show 0<=2;omega,λh=>(by cases h),λh=>(by cases h)⟩,⟨by show 0<=2;omega,λh=>(by cases h),λh=>(by cases h)⟩⟩,lO⟩
 |[a,b,c],hp =>
  simp only[vF,Bool.and_eq_true]at hp;obtain⟨⟨ha,hc⟩,hb⟩:=hp;have h':Rd ws s (a::b::c::q):=h;have aY:bH ws nP s=false:=by
   rw[cV yw h'];exact bm (jU ha (am (by simp[nP,b9])) rfl rfl)
  have iN:bH ws Fk s=false:=by
   rw[cV MB h'];exact bm (jU ha (am (by simp[Fk,b9])) rfl rfl)
  obtain⟨t1,t2,t3⟩:=Gu h' ha;obtain⟨r1,r2,r3⟩:=Yc t3 hb;obtain⟨u1,u2,u3⟩:=Gu r3 hc;have hA:oy ws s=⟨iX ws (eu ws s),rz ws s,ry ws s,rz ws (eg ws (eu ws s)),ry ws (eg ws (eu ws s))⟩:=by
   unfold oy;rw[if_neg (by rw[aY];simp),if_neg (by rw[iN];simp)]
  have hS:dQ ws s=eu ws (eg ws (eu ws s)):=by
   unfold dQ;rw[if_neg (by rw[aY];simp),if_neg (by rw[iN];simp)]
  have hg:m0 (eu ws s) (eu ws (eg ws (eu ws s))):=(EU ws _).trans (qe ws _);refine⟨?_,?_,lO⟩
  .rw[hA,hS];have hk:((iX ws (eu ws s)) != 0)=true:=(by rw[bne_iff_ne];omega);simp only[M5,filter_cons,hk,if_true,filter_nil,map_cons,map_nil];show [(⟨b,a,c⟩:xy)]=[⟨_,_,_⟩];rw[r1,pH hg t2,t1,u1]
  .rw[hA,hS];exact⟨by show iX ws (eu ws s)<=4;omega,t2.gro hg,u2⟩
 |[a,b,c,d,e,f],hp =>
  simp only[vF,Bool.and_eq_true,aZ]at hp;obtain⟨⟨⟨⟨rfl,rfl⟩,rfl⟩,rfl⟩,hc,he⟩:=hp;have h':Rd ws s (Ce::lw::c::Tg::e::kS::q):=h;have aY:bH ws nP s=false:=by
   rw[cV yw h'];exact bm (am (by simp[nP,Ce]))
  have iN:bH ws Fk s=true:=by
   rw[cV MB h'];exact aT _
  have h1:=cM h';have h2:Rd ws (pi ws s.adv) (c::Tg::e::kS::q):=Tj rS h1;obtain⟨t1,t2,t3⟩:=Gu h2 hc;have h3:Rd ws (nR ws s.adv) (e::kS::q):=Tj tA t3;obtain⟨u1,u2,u3⟩:=Gu h3 he;have hA:oy ws s=T7 ws s.adv:=by unfold oy;rw[if_neg (by rw[aY];simp),if_pos iN]
  have hS:dQ ws s=yF ws s.adv:=by unfold dQ;rw[if_neg (by rw[aY];simp),if_pos iN]
  have LK:m0 (eu ws (nR ws s.adv)) (yF ws s.adv):=nK ws _ _;have hg:m0 (eu ws (pi ws s.adv)) (yF ws s.adv):=(nK ws lR _).trans ((qe ws _).trans LK);refine⟨?_,?_,lO⟩
  .rw[hA,hS];show [(⟨Ce,c,e⟩:xy)]=[⟨T6 4,IP _ _ (rz ws (pi ws s.adv)) (ry ws (pi ws s.adv)),IP _ _ (rz ws (nR ws s.adv)) (ry ws (nR ws s.adv))⟩];rw[pH hg t2,t1,pH LK u2,u1];rfl
  .rw[hA,hS];exact⟨zq4 4,t2.gro hg,u2.gro LK⟩
theorem RF(vars hid:List UInt8)(a b:List cf):M5 vars hid (a++b)=M5 vars hid a++M5 vars hid b:=by simp[M5]
theorem RG{s s':PS}(h:m0 s s'){l:List cf}(hl:∀a∈l,uW s.vars s.hid a):M5 s'.vars s'.hid l=M5 s.vars s.hid l:=by
 unfold M5;apply map_congr_left;intro a ha;have:=hl a (mem_filter.1 ha).1;unfold ZM;rw[pH h this.2.1,pH h this.2.2]
theorem uW.gro{s s':PS}(h:m0 s s'){a:cf}(ha:uW s.vars s.hid a):uW s'.vars s'.hid a:=⟨ha.1,ha.2.1.gro h,ha.2.2.gro h⟩
theorem aa3{ws:List ByteArray}{f:List ByteArray}(hf:nC f):∀{n:Nat} {s:PS} {q:List ByteArray},Rd ws s (f++q)->f.length<=n->fs bG q=false ->
  ∃al,Pb [] f=some al/\al=M5 (iu ws n (dQ ws s)).2.vars (iu ws n (dQ ws s)).2.hid (oy ws s::(iu ws n (dQ ws s)).1)/\∀a∈oy ws s::(iu ws n (dQ ws s)).1,uW (iu ws n (dQ ws s)).2.vars (iu ws n (dQ ws s)).2.hid a:=by
 induction hf using nC.ind with
 |@one p hp =>
  intro n s q h hn hq;obtain⟨h1,h2,h3⟩:=Ta h hp;have e:iu ws n (dQ ws s)=([],dQ ws s):=by
   cases n with
   |zero=>rfl
   |succ n=>simp only[iu];rw[cV mw h3,show fs cY q=false from hq,if_neg (by simp)]
  rw[e];refine⟨pce p,?_,h1,λa ha=>?_⟩
  .have:=Gk (vW hp) [] [];rw[append_nil]at this;rw[this];simp only[Pb,nil_append,if_pos hp]
  .simp only[mem_singleton]at ha;subst ha;exact h2
 |@more p r hp _ ih =>
  intro n s q h hn hq;rw[append_assoc]at h;obtain⟨h1,h2,h3⟩:=Ta h hp;have h3':Rd ws (dQ ws s) (bG::(r++q)):=h3;simp only[length_append,length_cons]at hn;cases n with
  |zero=>omega
  |succ n =>
   have e:iu ws (n+1) (dQ ws s)=(oy ws (dQ ws s).adv::(iu ws n (dQ ws (dQ ws s).adv)).1,(iu ws n (dQ ws (dQ ws s).adv)).2):=by
    simp only[iu];rw[cV mw h3',show fs cY (bG::(r++q))=true from aT _,if_pos rfl]
   obtain⟨al,g1,g2,g3⟩:=ih (n:=n) (cM h3') (by omega) hq;rw[e];have hg:m0 (dQ ws s) (iu ws n (dQ ws (dQ ws s).adv)).2:=(KW ws (dQ ws s).adv).trans (Ql ws n _);refine⟨pce p++al,?_,?_,λa ha=>?_⟩
   .rw[Gk (vW hp)];simp only[Pb,nil_append,aT,if_true,if_pos hp,g1];rfl
   .rw[show oy ws s::(oy ws (dQ ws s).adv::(iu ws n (dQ ws (dQ ws s).adv)).1)=[oy ws s]++(oy ws (dQ ws s).adv::(iu ws n (dQ ws (dQ ws s).adv)).1) from rfl,RF,<-g2,h1];rw[RG hg (λa ha=>by simp only[mem_singleton]at ha;subst ha;exact h2)]
   .rcases mem_cons.1 ha with rfl|ha
    .exact h2.gro hg
    .exact g3 a ha
structure rC(s:PS):Prop where
 nv:s.vars.Nodup
 nh:s.hid.Nodup
 lv:∀c∈s.vars,aI (dm c)=true
 lh:∀c∈s.hid,jH (dm c)=true
theorem RS{l:List UInt8}{c:UInt8}(h:c∈l):plc l c<l.length:=by
 induction l with
 |nil=>cases h
 |cons a l ih =>
  show(if a=c then 0 else plc l c+1)<_;by_cases e:a=c
  .rw[if_pos e];simp
  .rw[if_neg e];rcases mem_cons.1 h with h|h
   .exact absurd h.symm e
   .have:=ih h;simp;omega
theorem Gf{l:List UInt8}{c x:UInt8}(h:x∈put l c):x∈l\/x=c:=by
 unfold put at h;split at h
 .rcases mem_append.1 h with h|h
  .exact zq0 h
  .exact zq1 (by simpa using h)
 .exact zq0 h
theorem wV{l:List UInt8}{c:UInt8}(h:l.Nodup):(put l c).Nodup:=by
 unfold put;split
 .rename_i he;rw[nodup_append];refine⟨h,by simp,λa ha b hb=>?_⟩;simp only[mem_singleton]at hb;subst hb;rintro rfl;have:=RS ha;omega
 .exact h
theorem Ga{l:List UInt8}(h:l.Nodup){i:Nat}(hi:i<l.length):plc l (l.getD i 0)=i:=by
 induction l generalizing i with
 |nil=>simp at hi
 |cons a l ih =>
  have hn:=nodup_cons.1 h;cases i with
  |zero=>show(if a=a then 0 else _)=0;rw[if_pos rfl]
  |succ i =>
   have lN:i<l.length:=(by simpa using hi);show(if a=l.getD i 0 then 0 else plc l (l.getD i 0)+1)=i+1;rw[if_neg,ih hn.2 lN];rintro rfl;apply hn.1;have:l.getD i 0=l[i]:=(by simp[lN]);rw[this];exact getElem_mem lN
theorem nT{ws:List ByteArray}{k:ByteArray}{s:PS}(h:rC s):rC (aF ws k s):=by unfold aF;split <;> exact⟨h.nv,h.nh,h.lv,h.lh⟩
theorem MU{ws:List ByteArray}{s:PS}(h:rC s):rC (bz ws s):=by
 unfold bz;split
 .rename_i hl;refine⟨wV h.nv,h.nh,λc hc=>?_,h.lh⟩;rcases Gf hc with hc|rfl
  .exact h.lv c hc
  .rw[<-yG hl];exact hl
 .exact⟨h.nv,h.nh,h.lv,h.lh⟩
theorem FJ{ws:List ByteArray}{s:PS}(h:rC s):rC (bU ws s):=by
 unfold bU;split
 .exact⟨h.nv,h.nh,h.lv,h.lh⟩
 .exact MU h
theorem yI{ws:List ByteArray}{s:PS}(h:rC s):rC (eu ws s):=by
 unfold eu;split
 .rename_i hl;refine⟨h.nv,wV h.nh,h.lv,λc hc=>?_⟩;rcases Gf hc with hc|rfl
  .exact h.lh c hc
  .rw[<-DX hl];exact hl
 .exact FJ h
theorem Rr{ws:List ByteArray}{s:PS}(h:rC s):rC (eg ws s):=by
 unfold eg;split
 .exact⟨h.nv,h.nh,h.lv,h.lh⟩
 .split
  .exact⟨h.nv,h.nh,h.lv,h.lh⟩
  .exact nT h
theorem MS{ws:List ByteArray}{s:PS}(h:rC s):rC (dQ ws s):=by
 unfold dQ;split
 .exact⟨h.nv,h.nh,h.lv,h.lh⟩
 .split
  .have h1:rC s.adv:=⟨h.nv,h.nh,h.lv,h.lh⟩;exact nT (yI (nT (yI (nT h1))))
  .exact yI (Rr (yI h))
theorem Rq{ws:List ByteArray}(n:Nat):∀{s:PS},rC s->rC (iu ws n s).2:=by
 induction n with
 |zero=>intro s h;exact h
 |succ n ih =>
  intro s h;simp only[iu];split
  .exact ih (MS ⟨h.nv,h.nh,h.lv,h.lh⟩)
  .exact h
theorem MT{ws:List ByteArray}{s:PS}(h:rC s):rC (pP ws s):=Rq _ (MS h)
def SgN(x:List UInt8)(W:List (List UInt8)):Prop:=∀r,ij (x++r)=(ij r).map (W++·)
section
variable {x x':List UInt8} {W W':List (List UInt8)}
theorem BD{c:UInt8}(h1:ix c=false)(h2:c≠45)(h3:c≠33)(h4:nA c.toNat=true)(h5:¬ (c=32\/c=10)):SgN [c] [[c]]:=λr=>by
 have hl:¬ 0<aP (c::r):=by unfold aP;rw[takeWhile_cons,h1];simp
 have h6:¬ ((c::r).take 2=[45,62]\/(c::r).take 2=[33,61]):=by
  rw[take_succ_cons];rintro(e|e) <;> injection e with e _
  .exact h2 e
  .exact h3 e
 have hw:aC (c::r)=1:=by
  unfold aC;rw[if_neg hl,if_neg h6];show(if nA c.toNat=true then 1 else 0)=1;rw[h4];rfl
 rw[show [c]++r=c::r from rfl,iY c r h5 (by rw[hw];simp),hw];rfl
def bA(x:List UInt8):ByteArray:=⟨x.toArray⟩
def w3(x k y:List UInt8):List (List UInt8):=[x,k,y]
def w6(x y:List UInt8):List (List UInt8):=[[108,115],[40],x,[44],y,[41]]
end
section
variable {vs:List UInt8} {f:CF}
theorem FW{l:List UInt8}(h:l.Nodup){i j:Nat}(hi:i<l.length)(hj:j<l.length)(e:l.getD i 0=l.getD j 0):i=j:=by
 have h1:=Ga h hi;have h2:=Ga h hj;rw[e]at h1;omega
theorem FX{l:List UInt8}{i:Nat}(hi:i<l.length):l.getD i 0∈l:=by
 rw[getD_eq_getElem?_getD,getElem?_eq_getElem hi];exact getElem_mem hi
end
theorem xI{x y:List UInt8}(h:bA x=bA y):x=y:=by
 have:(bA x).data.toList=(bA y).data.toList:=by rw[h]
 exact this
theorem Gw{s:PS}(hs:rC s){k i k' i':Nat}(h:Pf s.vars s.hid k i)(h':Pf s.vars s.hid k' i')(e:IP s.vars s.hid k i=IP s.vars s.hid k' i'):ur k i=ur k' i':=by
 have one_inj:∀{c d:UInt8},dm c=dm d->c=d:=fun {c d} h=>by
  have:(dm c).data.toList=(dm d).data.toList:=by rw[h]
  injection this
 have v1:∀{i:Nat},i<s.vars.length->aI (dm (s.vars.getD i 0))=true:=λhi=>hs.lv _ (FX hi);have v2:∀{i:Nat},i<s.hid.length->jH (dm (s.hid.getD i 0))=true:=λhi=>hs.lh _ (FX hi);have n1:∀{c:UInt8},dm c≠b9:=fun {c} h=>by
  have:(dm c).data.toList=b9.data.toList:=by rw[h]
  simp[dm,b9]at this
 have e1:∀{k i:Nat},k<=2->k=0\/k=1\/k=2:=λh=>by omega
 rcases e1 (i:=0) h.1 with rfl|rfl|rfl <;> rcases e1 (i:=0) h'.1 with rfl|rfl|rfl
 .rfl
 .exact absurd e.symm n1
 .exact absurd e.symm n1
 .exact absurd e n1
 .have:=FW hs.nv (h.2.1 rfl) (h'.2.1 rfl) (one_inj e);rw[this]
 .have h3:=v1 (h.2.1 rfl);have e:dm (s.vars.getD i 0)=dm (s.hid.getD i' 0):=e;rw[e]at h3;have:=yH _ h3;rw[v2 (h'.2.2 rfl)]at this;cases this
 .exact absurd e n1
 .have h3:=v1 (h'.2.1 rfl);have e:dm (s.hid.getD i 0)=dm (s.vars.getD i' 0):=e;rw[<-e]at h3;have:=yH _ h3;rw[v2 (h.2.2 rfl)]at this;cases this
 .have:=FW hs.nh (h.2.2 rfl) (h'.2.2 rfl) (one_inj e);rw[this]
theorem Rj{k k':Nat}(h:k<=4)(h0:k≠0)(h':k'<=4)(h0':k'≠0)(e:T6 k=T6 k'):k=k':=by
 have hk:k=1\/k=2\/k=3\/k=4:=by omega
 have yd:k'=1\/k'=2\/k'=3\/k'=4:=by omega
 have e2:(T6 k).data.toList=(T6 k').data.toList:=by rw[e]
 rcases hk with rfl|rfl|rfl|rfl <;> rcases yd with rfl|rfl|rfl|rfl <;> first|rfl|(simp[T6,bM,jB,IQ,Ce]at e2)
theorem RE{s:PS}(hs:rC s){a b:cf}(ha:uW s.vars s.hid a)(hb:uW s.vars s.hid b)(a0:a.k≠0)(b0:b.k≠0)(e:ZM s.vars s.hid a=ZM s.vars s.hid b):tm a=tm b:=by
 unfold ZM at e;injection e with e1 e2 e3;unfold tm;rw[Rj ha.1 a0 hb.1 b0 e1,Gw hs ha.2.1 hb.2.1 e2,Gw hs ha.2.2 hb.2.2 e3]
theorem tH{α β γ:Type}{g:α->β}{h:α->γ}{P:α->Prop}(hP:∀a b,P a->P b->g a=g b->h a=h b):∀(l l':List α),(∀a∈l,P a)->(∀a∈l',P a)->l.map g=l'.map g->l.map h=l'.map h
 |[],[],_,_,_=>rfl
 |[],_::_,_,_,e=>by simp at e
 |_::_,[],_,_,e=>by simp at e
 |a::l,b::l',h1,h2,e=>by
  rw[map_cons,map_cons]at e ⊢;injection e with e1 e2;rw[hP a b (h1 a (by simp)) (h2 b (by simp)) e1,tH hP l l' (λx hx=>h1 x (by simp[hx])) (λx hx=>h2 x (by simp[hx])) e2]
def Rx(c:List Nat)(p:Pr):List Nat:=if p.k=1 then c.map (λx=>if x=c.getD p.r 0 then c.getD p.l 0 else x) else c
def prU(c:List Nat)(p:Pr):Pr:=⟨p.k,c.getD p.l 0,c.getD p.r 0⟩
def cfT(L:List Pr):CF:=⟨(L.foldl Rx (range 13)).take 5,(L.filter (λp=>p.k==2)).map (prU (L.foldl Rx (range 13))),(L.filter (λp=>p.k==3||p.k==4)).map (prU (L.foldl Rx (range 13)))⟩
theorem Tf(al:List cf):ej al=cfT ((al.filter (λa=>a.k != 0)).map tm):=by
 have hm:∀(l:List cf) (c:List Nat),l.foldl mW c=((l.filter (λa=>a.k != 0)).map tm).foldl Rx c:=by
  intro l;induction l with
  |nil=>intro c;rfl
  |cons a l ih =>
   intro c;rw[foldl_cons,ih];by_cases h0:a.k=0
   .have e1:mW c a=c:=(by unfold mW;rw[if_neg (by omega)]);rw[e1,filter_cons_of_neg (by simp[h0])]
   .rw[filter_cons_of_pos (by simp[h0]),map_cons,foldl_cons];rfl
 have hf:∀(q:Nat->Bool),q 0=false->∀(m:List Nat),(al.filter (λa=>q a.k)).map (iV m)=(((al.filter (λa=>a.k != 0)).map tm).filter (λp=>q p.k)).map (prU m):=by
  intro q hq m;rw[filter_map,filter_filter,map_map];have:al.filter (λa=>q a.k)=al.filter (λa=>((λp:Pr=>q p.k) ∘ tm) a&&(a.k != 0)):=by
   apply filter_congr;intro a _;show q a.k=(q a.k&&(a.k != 0));by_cases h0:a.k=0
   .rw[h0,hq];rfl
   .simp[h0]
  rw[this];rfl
 unfold ej cfT mA;rw[<-hm al (range 13),hf (λk=>k==2) rfl,hf (λk=>k==3||k==4) rfl]
def GL(s s':PS):Prop:=m0 s s'/\(rC s->rC s')
theorem GL.refl(s:PS):GL s s:=⟨m0.refl s,id⟩
theorem GL.trans{a b c:PS}(h:GL a b)(k:GL b c):GL a c:=⟨h.1.trans k.1,λx=>k.2 (h.2 x)⟩
theorem GL.same{s s':PS}(hv:s'.vars=s.vars)(hh:s'.hid=s.hid):GL s s':=⟨⟨by rw[hv];exact prefix_refl _,by rw[hh];exact prefix_refl _⟩,λh=>⟨by rw[hv];exact h.nv,by rw[hh];exact h.nh,by rw[hv];exact h.lv,by rw[hh];exact h.lh⟩⟩
section
variable {ws:List ByteArray}
theorem kT(k:ByteArray)(s:PS):GL s (aF ws k s):=⟨nK ws k s,nT⟩
theorem ET(s:PS):GL s (bz ws s):=⟨KX ws s,MU⟩
theorem xW(s:PS):GL s (bU ws s):=⟨EV ws s,FJ⟩
theorem nJ(s:PS):GL s s.adv:=GL.same rfl rfl
theorem CX(nd:Nd)(s:PS):GL s (bY nd s):=GL.same rfl rfl
theorem VJ(s:PS):GL s (v7 ws s):=by unfold v7;split;exact nJ s;exact kT _ s
theorem aa8(s:PS):GL s (q9 ws s):=by
 unfold q9;split
 .exact nJ s
 .exact((ET s).trans (VJ _)).trans (xW _)
theorem To(s:PS):GL s (fB ws s):=by
 unfold fB Jq;exact(((kT _ s).trans (aa8 _)).trans (kT _ _)).trans (CX _ _)
theorem aa5(s:PS):GL s (mR ws s):=by
 unfold mR;split
 .exact nJ s
 .split
  .exact((xW s).trans (nJ _)).trans (kT _ _)
  .exact xW s
theorem abc(s:PS):GL s (gp ws s):=by
 unfold gp;split
 .exact nJ s
 .split
  .exact(nJ s).trans (ET _)
  .split
   .unfold xh;exact((((ET s).trans (nJ _)).trans (kT _ _)).trans (kT _ _)).trans (xW _)
   .exact((ET s).trans (kT _ _)).trans (aa5 _)
theorem abb(s:PS):GL s (qT ws s):=by
 unfold qT;exact((abc s).trans (kT _ _)).trans (CX _ _)
theorem aa6{blk:PS->PS}(hb:∀s,GL s (blk s))(s:PS):GL s (nH blk ws s):=by
 have h1:GL s (ch blk ws s):=by unfold ch;exact((kT _ s).trans (To _)).trans (hb _)
 unfold nH;split
 .refine h1.trans (GL.trans (b:=kf s.nodes.length (ch blk ws s)) (GL.same rfl rfl) ((hb _).trans (GL.same rfl rfl)))
 .exact h1.trans (GL.same rfl rfl)
theorem aa9{blk:PS->PS}(hb:∀s,GL s (blk s))(s:PS):GL s (uV blk ws s):=by
 have h1:GL s (lV blk ws s):=by unfold lV;exact((kT _ s).trans (To _)).trans (hb _)
 exact h1.trans (GL.same rfl rfl)
theorem aa7{blk:PS->PS}(hb:∀s,GL s (blk s))(s:PS):GL s (jF blk ws s):=by
 unfold jF;split
 .exact aa6 hb s
 .split
  .exact aa9 hb s
  .exact abb s
theorem KU{c:PS->PS}(hc:∀s,GL s (c s)):∀n s,GL s (io c ws n s)
 |0,s=>GL.refl s
 |n+1,s=>by
  show GL s (if _ then s else io c ws n (c s));split
  .exact GL.refl s
  .exact(hc s).trans (KU hc n _)
theorem Tn:∀f s,GL s (cC ws f s)
 |0,s=>GL.refl s
 |f+1,s=>((kT _ s).trans (KU (aa7 (Tn f)) _ _)).trans (kT _ _)
theorem aba(s:PS):GL (pP ws (aF ws eF s)) (bL ws s):=by
 have h1:GL (pP ws (aF ws eF s)) (Ci ws s):=(Tn _ _).trans (CX _ _);unfold bL;split
 .exact h1
 .exact h1.trans (GL.same rfl rfl)
theorem FI:rC aJ:=⟨nodup_nil,nodup_nil,λc hc=>(by cases hc),λc hc=>(by cases hc)⟩
theorem Xr:rC (bL ws aJ):=(aba aJ).2 (MT (nT FI))
end
def Pg(b:List ByteArray)(C:List oe):Prop:=∀(ws:List ByteArray) (f n:Nat) (q:List ByteArray) (s:PS),b.length<f->b.length<n->fs m7 q=false->Rd ws s (b++q) ->
  ∃n' s',io (jF (cC ws f) ws) ws n s=io (jF (cC ws f) ws) ws n' s'/\n<=n'+b.length/\I2 ws s s' q (C.map (jh s.nodes.length))
theorem Pg.app{b b':List ByteArray}{C C':List oe}(h:Pg b C)(h':Pg b' C')(he:∀q,fs m7 q=false->fs m7 (b'++q)=false):Pg (b++b') (C++C'.map (jh C.length)):=by
 intro ws f n q s hf hn hq hr;rw[length_append]at hf hn;rw[append_assoc]at hr;obtain⟨n1,s1,e1,l1,L1⟩:=h ws f n (b'++q) s (by omega) (by omega) (he q hq) hr;obtain⟨n2,s2,e2,l2,L2⟩:=h' ws f n1 q s1 (by omega) (by omega) hq L1.1;refine⟨n2,s2,e1.trans e2,by rw[length_append];omega,?_⟩;have:=L1.trans L2;rw[L1.len,length_map]at this;rw[map_append,gB,Nat.add_comm C.length];exact this
theorem ND{ws f q:List ByteArray}{s:PS}(hf:nC f)(hq:fs bG q=false)(h:Rd ws s (f++q))(hl:f.length<=ws.length+1):Rd ws (pP ws s) q:=by
 have h1:=(yU (ws:=ws)).ok s _ h;rw[xU hf hl hq]at h1;exact h1
theorem yE(r:List ByteArray):fs bG (cK::r)=false:=bm (am (by simp[cK,bG]))
theorem mG{f b:List ByteArray}{C:List oe}(hf:nC f)(hB:Pg b C){ws:List ByteArray}(e:ws=dq::(f++cK::(b++[dd]))):
  ∃N,(bL ws aJ).nodes=N++[{ gP with nx:=N.length+1 }]/\BV (bL ws aJ).vars 0 N (C.map (jh 0))/\(bL ws aJ).failed=false:=by
 have hl:ws.length=f.length+b.length+3:=by rw[e];simp only[length_cons,length_append,length_nil];omega
 have r0:Rd ws aJ (eF::(f++cK::(b++[dd]))):=⟨rfl,e,zq5 _⟩;have a1:=dI Ds r0;have r2:=ND hf (yE _) a1.rd (by omega);have a3:=dI (k:=kY) wI r2;have n3:(aF ws kY (pP ws (aF ws eF aJ))).nodes=[]:=by rw[a3.nd,wm,a1.nd];rfl
 obtain⟨n',s',e1,l1,r4,Fa,N,hN,hNI⟩:=hB ws ws.length (ws.length+2) [dd] _ (by omega) (by omega) Bw a3.rd;obtain⟨n2,rfl⟩:∃n2,n'=n2+1:=⟨n'-1,by omega⟩;rw[sN r4]at e1;have a5:=dI (k:=jG) oX r4;rw[n3]at hN hNI;rw[nil_append]at hN;have hT:Ci ws aJ=bY gP (aF ws jG s'):=by
  show bY gP (aF ws jG (io (jF (cC ws ws.length) ws) ws (ws.length+2) (aF ws kY (pP ws (aF ws eF aJ)))))=_;rw[e1]
 have hp:(Ci ws aJ).pos=ws.length:=by
  rw[hT];have h5:=a5.rd;have h6:=congrArg List.length h5.2.1;rw[length_drop,length_nil]at h6;have h7:=h5.2.2;show(aF ws jG _).pos=ws.length;omega
 have hS:bL ws aJ=Ci ws aJ:=if_pos hp;rw[hS,hT];refine⟨N,?_,hNI _ a5.vs,a5.rd.1⟩;show(aF ws jG s').nodes++[{ gP with nx:=(aF ws jG s').nodes.length+1 }]=_;rw[a5.nd,hN]
theorem X9{l:List UInt8}(h:lx l=0):∃f b k,nC f/\fR b k/\nY l=dq::(f++cK::(b++[dd])):=by
 obtain⟨-,-,hf,-,-⟩:=pC h;apply Classical.byContradiction;intro hc;have:(bL (nY l) aJ).failed=true:=RW (λk hk=>by
  obtain⟨j,⟨f,b,h1,h2,h3⟩,-⟩:=Nr hk;exact hc ⟨f,b,j,h1,h2,h3⟩)
 have hf:(bL (nY l) aJ).failed=false:=hf;rw[hf]at this;cases this
def tO(z:List ByteArray)(d:Bool):List ByteArray->List ByteArray × Bool
 |[]=>(z,d)
 |x::r=>tO (bW (aI x&&!d) z x) (aV x aW) r
def Cg(z:List ByteArray):List ByteArray->List ByteArray
 |[]=>z
 |x::r=>Cg (bW (jH x) z x) r
theorem gz:∀(a b:List ByteArray) (z:List ByteArray) (d:Bool),tO z d (a++b)=tO (tO z d a).1 (tO z d a).2 b
 |[],_,_,_=>rfl
 |x::a,b,z,d=>gz a b _ _
theorem kH:∀(a b:List ByteArray) (z:List ByteArray),Cg z (a++b)=Cg (Cg z a) b
 |[],_,_=>rfl
 |x::a,b,z=>kH a b _
theorem M6(l:List ByteArray):∀k,k<=l.length->tO [] false (l.take k)=(O9 l k,aaX l k)/\Cg [] (l.take k)=O8 l k
 |0,_=>⟨rfl,rfl⟩
 |k+1,hk=>by
  obtain⟨h1,h2⟩:=M6 l k (by omega);have hg:l[k]?.getD em=l[k]:=by rw[getElem?_eq_getElem (by omega)];rfl
  rw[take_succ_eq_append_getElem (by omega),gz,kH,h1,h2];refine⟨?_,?_⟩
  .show(bW (aI l[k]&&!aaX l k) (O9 l k) l[k],aV l[k] aW)=(bW (aI (l[k]?.getD em)&&!aaX l k) (O9 l k) (l[k]?.getD em),aV (l[k]?.getD em) aW);rw[hg]
  .show bW (jH l[k]) (O8 l k) l[k]=bW (jH (l[k]?.getD em)) (O8 l k) (l[k]?.getD em);rw[hg]
theorem pA{ws:List ByteArray}(hf:(bL ws aJ).failed=false):(bL ws aJ).vars.map dm=(tO [] false ws).1/\(bL ws aJ).hid.map dm=Cg [] ws:=by
 have hp:(bL ws aJ).pos=ws.length:=by
  unfold bL at hf ⊢;by_cases hp:(Ci ws aJ).pos=ws.length
  .rw[if_pos hp];exact hp
  .rw[if_neg hp]at hf;cases hf
 have hi:=Rf (ws:=ws) aJ (Fh _) hf;rw[hp]at hi;obtain⟨-,hv,hh⟩:=hi;obtain⟨h1,h2⟩:=M6 ws ws.length (zq4 _);rw[take_length]at h1 h2;rw[h1,h2];exact⟨hv.symm,hh.symm⟩
theorem zQ(c:Bool)(z:List ByteArray)(x:ByteArray):bW c z x=z\/bW c z x=z++[x]:=by
 unfold bW;split
 .exact zq1 rfl
 .exact zq0 rfl
theorem vN{z:List ByteArray}{x:ByteArray}(h:x∈z)(c:Bool):bW c z x=z:=by
 unfold bW;have:amI z x=rb z x:=by
  unfold amI;rw[if_pos];have hm:∀(z:List ByteArray),x∈z->rb z x<z.length:=λz=>by
   induction z with
   |nil=>intro h;simp at h
   |cons y z ih =>
    intro h;unfold rb;by_cases e:aV y x=true
    .rw[if_pos e];simp
    .rw[if_neg e];rcases mem_cons.1 h with rfl|h
     .exact absurd (aT _) e
     .have:=ih h;simp only[length_cons];omega
  exact hm z h
 rw[if_neg];rw[this];simp
theorem sH{z:List ByteArray}{x:ByteArray}:x∈bW true z x:=by
 rcases zQ true z x with h|h
 .by_cases hm:x∈z
  .rw[h];exact hm
  .exfalso;have hn:∀(z:List ByteArray),x ∉ z->rb z x=z.length:=λz=>by
    induction z with
    |nil=>intro _;rfl
    |cons y z ih =>
     intro hm;unfold rb;rw[if_neg (λe=>hm (by rw[aZ.1 e];simp)),ih (λh=>hm (by simp[h]))];simp
   have e:bW true z x=z++[x]:=by
    unfold bW amI;rw[hn z hm,if_neg (Nat.lt_irrefl _)];rfl
   rw[e]at h;have:=congrArg List.length h;simp at this
 .rw[h];simp
theorem vO{c:Bool}{z:List ByteArray}{x y:ByteArray}(h:y∈z):y∈bW c z x:=by
 rcases zQ c z x with e|e <;> rw[e]
 .exact h
 .exact mem_append_left _ h
theorem FT:∀(a:List ByteArray) {z:List ByteArray} {d:Bool} {y:ByteArray},y∈z->y∈(tO z d a).1
 |[],_,_,_,h=>h
 |_::a,_,_,_,h=>FT a (vO h)
theorem FU:∀(a:List ByteArray) (z z':List ByteArray) (d:Bool),(∀y∈(tO z d a).1,y∈z')->tO z' d a=(z',(tO z d a).2)
 |[],_,_,_,_=>rfl
 |x::a,z,z',d,h=>by
  have h:∀y∈(tO (bW (aI x&&!d) z x) (aV x aW) a).1,y∈z':=h;have e:bW (aI x&&!d) z' x=z':=by
   cases hc:(aI x&&!d) with
   |false=>unfold bW;rw[if_neg (by simp)]
   |true =>
    rw[hc]at h;exact vN (h x (FT a sH)) true
  show tO (bW (aI x&&!d) z' x) (aV x aW) a=_;rw[e];exact FU a _ z' _ h
theorem FO:∀(a:List ByteArray) {z:List ByteArray} {y:ByteArray},y∈z->y∈Cg z a
 |[],_,_,h=>h
 |_::a,_,_,h=>FO a (vO h)
theorem FP:∀(a:List ByteArray) (z z':List ByteArray),(∀y∈Cg z a,y∈z')->Cg z' a=z'
 |[],_,_,_=>rfl
 |x::a,z,z',h=>by
  have h:∀y∈Cg (bW (jH x) z x) a,y∈z':=h;have e:bW (jH x) z' x=z':=by
   cases hc:jH x with
   |false=>unfold bW;rw[if_neg (by simp)]
   |true =>
    rw[hc]at h;exact vN (h x (FO a sH)) true
  show Cg (bW (jH x) z' x) a=z';rw[e];exact FP a _ z' h
theorem Eu{b:List ByteArray}{k:Nat}(h:fR b k):∀z,(tO z false b).2=false:=by
 have hx:∀(a:List ByteArray) (x:ByteArray) (z:List ByteArray) (d:Bool),(tO z d (a++[x])).2=aV x aW:=λa x z d=>by rw[gz];rfl
 have ZG:aV l9 aW=false:=bm (am (by simp[l9,aW]));have Jh:aV cK aW=false:=bm (am (by simp[cK,aW]));have yi:aV dd aW=false:=bm (am (by simp[dd,aW]));have end_:∀(a r:List ByteArray) (x:ByteArray),aV x aW=false->(∀z,(tO z false r).2=false)->∀z d,(tO z d (a++x::r)).2=false:=λa r x hd hr z d=>by
  rw[show a++x::r=(a++[x])++r by simp,gz,hx,hd];exact hr _
 induction h using fR.ind with
 |nil=>intro z;rfl
 |@sim p r k _ _ ih=>intro z;exact end_ p r l9 ZG ih z false
 |@whl c b r _ _ _ _ _ _ ihr =>
  intro z;rw[show rA::lw::(c++kS::cK::(b++dd::r))=(rA::lw::(c++kS::cK::b))++dd::r by simp];exact end_ _ r dd yi ihr z false
 |@ife c b r _ _ _ _ _ _ ihr =>
  intro z;rw[show mt::lw::(c++kS::cK::(b++dd::r))=(mt::lw::(c++kS::cK::b))++dd::r by simp];exact end_ _ r dd yi ihr z false
 |@ifl c b d r _ _ _ _ _ _ _ _ _ ihr =>
  intro z;rw[show mt::lw::(c++kS::cK::(b++dd::m7::cK::(d++dd::r)))=(mt::lw::(c++kS::cK::(b++dd::m7::cK::d)))++dd::r by simp];exact end_ _ r dd yi ihr z false
theorem pp{a b:List UInt8}(h:a.map dm=b.map dm):a=b:=(map_inj_right (λc d h=>by
 have:(dm c).data.toList=(dm d).data.toList:=by rw[h]
 injection this)).1 h
theorem Ns{f q q':List ByteArray}(hf:nC f):ej (gR (dq::(f++cK::q)) aJ)=ej (gR (dq::(f++cK::q')) aJ):=by
 have key:∀q:List ByteArray,∃al,Pb [] f=some al/\al=M5 (pP (dq::(f++cK::q)) (aF (dq::(f++cK::q)) eF aJ)).vars (pP (dq::(f++cK::q)) (aF (dq::(f++cK::q)) eF aJ)).hid (gR (dq::(f++cK::q)) aJ) /\
   (∀a∈gR (dq::(f++cK::q)) aJ,uW (pP (dq::(f++cK::q)) (aF (dq::(f++cK::q)) eF aJ)).vars (pP (dq::(f++cK::q)) (aF (dq::(f++cK::q)) eF aJ)).hid a) /\
   rC (pP (dq::(f++cK::q)) (aF (dq::(f++cK::q)) eF aJ))/\(pP (dq::(f++cK::q)) (aF (dq::(f++cK::q)) eF aJ)).vars.map dm=(tO [] false (dq::f)).1/\(pP (dq::(f++cK::q)) (aF (dq::(f++cK::q)) eF aJ)).hid.map dm=Cg [] (dq::f):=by
  intro q;obtain⟨ws,Fe⟩:∃ws,ws=dq::(f++cK::q):=⟨_,rfl⟩;have hl:f.length<=ws.length+1:=by rw[Fe];simp;omega
  have r0:Rd ws aJ (eF::(f++cK::q)):=⟨rfl,Fe,zq5 _⟩;rw[<-Fe];have a1:=dI Ds r0;have r2:=ND hf (yE q) a1.rd hl;obtain⟨al,g1,g2,g3⟩:=aa3 hf (n:=ws.length+1) a1.rd hl (yE q);have hi:=Fp _ (adU aJ (Fh ws)) r2.1;have hp:(pP ws (aF ws eF aJ)).pos=f.length+1:=by
   have h1:=congrArg List.length r2.2.1;have h2:=r2.2.2;rw[Fe]at h1 h2;simp only[length_drop,length_append,length_cons]at h1 h2;rw[<-Fe]at h1 h2;omega
  rw[hp]at hi;obtain⟨-,hv,hh⟩:=hi;obtain⟨k1,k2⟩:=M6 ws (f.length+1) (by rw[Fe];simp);have ht:ws.take (f.length+1)=dq::f:=by rw[Fe];simp
  rw[ht]at k1 k2;refine⟨al,g1,g2,g3,MT (nT FI),?_,?_⟩
  .rw[k1];exact hv.symm
  .rw[k2];exact hh.symm
 obtain⟨al,g1,g2,g3,g4,g5,g6⟩:=key q;obtain⟨al',h1,h2,h3,h4,h5,h6⟩:=key q';rw[g1]at h1;injection h1 with h1;have ev:=pp (g5.trans h5.symm);have eh:=pp (g6.trans h6.symm);rw[<-ev,<-eh]at h2 h3;rw[Tf,Tf];refine congrArg cfT (tH (g:=ZM _ _) (P:=λa=>uW _ _ a/\a.k≠0) (λa b ha hb uH=>RE g4 ha.1 hb.1 ha.2 hb.2 uH) _ _ (λa ha=>?_) (λa ha=>?_) (g2.symm.trans (h1.trans h2)))
 .obtain⟨k1,k2⟩:=mem_filter.1 ha;exact⟨g3 a k1,by simpa using k2⟩
 .obtain⟨k1,k2⟩:=mem_filter.1 ha;exact⟨h3 a k1,by simpa using k2⟩
def sI(ws:List ByteArray):Rs:=zT (bL ws aJ).nodes (bL ws aJ).vars.length (gR ws aJ)
def Pe(ws:List ByteArray):Prop:=An (bL ws aJ) (gR ws aJ)
def rD(w:World)(X:Nat)(ws:List ByteArray)(G:List Nat):Prop :=
 ∃Q vv pv nv fv Z,Pa w X Q ws (bL ws aJ) (gR ws aJ) vv pv nv fv Z/\G=X::(zy Q vv pv nv++Z)
section
variable {w w':World} {X:Nat} {ws:List ByteArray} {G:List Nat}
theorem rD.of_eq(h:rD w X ws G)(he:∀k∈G,w'.heap[k]?=w.heap[k]?):rD w' X ws G:=by
 obtain⟨Q,vv,pv,nv,fv,Z,h1,rfl⟩:=h;refine⟨Q,vv,pv,nv,fv,Z,h1.of_eq (λk hk=>he k ?_),rfl⟩;rcases hk with rfl|hk|hk
 .exact mem_cons_self
 .exact mem_cons_of_mem _ (mem_append_left _ hk)
 .exact mem_cons_of_mem _ (mem_append_right _ hk)
theorem rD.lt(h:rD w X ws G):∀k∈G,k<w.heap.size:=by
 obtain⟨Q,vv,pv,nv,fv,Z,h1,rfl⟩:=h;intro k hk;refine h1.lt k ?_;rcases mem_cons.1 hk with rfl|hk
 .exact zq0 rfl
 .rcases mem_append.1 hk with hk|hk
  .exact zq1 (zq0 hk)
  .exact zq1 (zq1 hk)
theorem rD.mem(h:rD w X ws G):X∈G:=by
 obtain⟨Q,vv,pv,nv,fv,Z,h1,rfl⟩:=h;exact mem_cons_self
theorem rD.below(h:rD w X ws G)(hb:Below w.heap.size w w'):rD w' X ws G:=h.of_eq (λk hk=>hb.block k (h.lt k hk))
theorem IsL.prg{B:Nat}(h:IsL B w X ws (bL ws aJ) (gR ws aJ)):∃G,rD w X ws G/\∀k∈G,B<=k:=by
 obtain⟨Q,h0,hB,h1⟩:=h;obtain⟨vv,pv,nv,hC,cq⟩:=h1.cp;have bV:Bk w X 88 [X0 Q,.pointer none]:=h0;have bp:∀{e sz n:Nat} {v:Value} {xs:List Value},w.ownsRow 0 e sz v n xs->e≠88->∀k,v.ownBlock=some k->X≠k:=by
  intro e sz n v xs hr aY k hk hXk;rcases hr.2 with⟨rfl,-⟩|⟨g,cap,cur,rfl,-,hg,-⟩
  .cases hk
  .have e1:g=k:=(by injection hk);rw[e1,<-hXk]at hg;unfold Bk at bV;rw[bV]at hg;injection hg with hg;injection hg with _ hg;exact aY hg.symm
 have hPa:Pa w X Q ws (bL ws aJ) (gR ws aJ) vv pv nv (.pointer none) []:=by
  refine⟨bV,hC,zq0 ⟨rfl,rfl⟩,λhm=>?_,by simp⟩;simp only[zy,mem_cons,mem_append,Option.mem_toList]at hm;rcases hm with rfl|hm|hm|hm
  .have h2:=hC.bk;unfold Bk at h2 bV;rw[h2]at bV;injection bV with bV;injection bV with _ bV;revert bV;decide
  .exact bp hC.vr (by decide) X hm rfl
  .exact bp hC.pr (by decide) X hm rfl
  .exact bp hC.nr (by decide) X hm rfl
 refine⟨_,⟨Q,vv,pv,nv,_,[],hPa,rfl⟩,λk hk=>?_⟩;rcases mem_cons.1 hk with rfl|hk
 .exact hB
 .rw[append_nil]at hk;exact cq k hk
structure YN(w:World)(X:Nat)(ws:List ByteArray)(G G':List Nat)(w':World):Prop where
 pg:rD w' X ws G'
 st:aq [X] w [X] w'
 gr:∀k∈G',k∈G\/w.heap.size<=k
theorem xr.ask{Q RB:Nat}{vv pv nv:Value}{Z:List Nat}{w1:World}(hG:G=X::(zy Q vv pv nv++Z))(h:xr w X Q ws (bL ws aJ) (gR ws aJ) vv pv nv Z RB w1)(hb:Below w1.heap.size w1 w'):∃G',YN w X ws G G' w':=by
 obtain⟨av,kv,FV,L,h1,-,h3,h4⟩:=h;refine⟨X::(zy Q vv pv nv++Tk RB av kv FV L),⟨Q,vv,pv,nv,_,_,h1.below hb,rfl⟩,⟨hb.os.trans h3.os,hb.tape.trans h3.tape,hb.output.trans h3.output,zq3 h3.size hb.size,λk hk hX=>(hb.block k (zq6 hk h3.size)).trans (h3.block k hk hX),λk hk=>zq0 hk⟩,λk hk=>?_⟩;rw[hG];rcases mem_cons.1 hk with rfl|hk
 .exact zq0 mem_cons_self
 .rcases mem_append.1 hk with hk|hk
  .exact zq0 (mem_cons_of_mem _ (mem_append_left _ hk))
  .rcases h4 k hk with hk|hk
   .exact zq0 (mem_cons_of_mem _ (mem_append_right _ hk))
   .exact zq1 hk
theorem rD.verdict(h:rD w X ws G)(hA:Pe ws):Calls prog 33 #[.pointer (some ⟨X,0,none⟩)] w λe w'=>e=.returned (.int .i64 ((sI ws).vd:Nat))/\∃G',YN w X ws G G' w':=by
 obtain⟨Q,vv,pv,nv,fv,Z,h1,hG⟩:=h;refine(BK h1 hA).mono ?_;rintro e w1 ⟨rfl,RB,hP⟩;exact⟨rfl,hP.ask hG (Below.refl _ _)⟩
theorem rD.alarms(h:rD w X ws G)(hA:Pe ws):Calls prog 41 #[.pointer (some ⟨X,0,none⟩)] w λe w'=>∃v,e=.returned v/\w'.ownsRow w.heap.size 82 2 v (sI ws).al.length (vP (sI ws).al)/\((sI ws).al=[]->v=.slice none 0 0)/\∃G',YN w X ws G G' w':=by
 obtain⟨Q,vv,pv,nv,fv,Z,h1,hG⟩:=h;refine(Cw h1 hA (GP hA)).mono ?_;rintro e w2 ⟨v,rfl,g1,g2,RB,w1,hP,hb⟩;exact⟨v,rfl,g1,g2,hP.ask hG hb⟩
theorem rD.nodes(h:rD w X ws G):Calls prog 29 #[.pointer (some ⟨X,0,none⟩)] w λe w'=>e=.returned (.int .i64 (bL ws aJ).nodes.length)/\∃n,w'=w.drewN n:=by
 obtain⟨Q,vv,pv,nv,fv,Z,h1,-⟩:=h;have HE:=ab (nQ h1.bx);have c0:w.cell? ⟨X,0,none⟩=some (.pointer (some ⟨Q,0,none⟩)):=h1.bx.cell 0 rfl;have q0:=h1.cp.bk.cell 3 rfl;obtain⟨aa,ac,jK,-,-⟩:=aj h1.cp.nr;subst jK;clear h1;go_enter func29,ntmps29;go_wp2_with (go_at_call 53;refine(uh HE).mono ?_;rintro e w' ⟨rfl,n,rfl⟩)
 go_ret;exact⟨rfl,_,rfl⟩
end
def ZS(w:World)(Y X:Nat)(s:ByteArray):Prop:=Bk w Y 36 [.pointer (some ⟨X,0,none⟩),.string s,.slice none 0 0,.slice none 0 0]
theorem Kn(s:ByteArray)(w:World):Calls prog 16 #[.string s] w λe w'=>Below w.heap.size w w'/\(((240<s.size\/lx s.data.toList≠0)/\e=.returned (.tuple #[.pointer none,.bool true])) \/
  (s.size<=240/\lx s.data.toList=0/\∃Y X G,e=.returned (.tuple #[.pointer (some ⟨Y,0,none⟩),.bool true])/\ZS w' Y X s/\w.heap.size<=Y/\Y ∉ G/\rD w' X (nY s.data.toList) G/\∀k∈G,w.heap.size<=k)):=by
 by_cases hl:240<s.size
 .have d0:decide ((240:Int)<(s.size:Int))=true:=by simp;omega
  go_enter func16,ntmps16;go_wp2_with fail
  go_ret2;exact⟨Below.refl _ _,zq0 ⟨zq0 hl,rfl⟩⟩
 .have d0:decide ((240:Int)<(s.size:Int))=false:=by simp;omega
  have YV:=ab (Bc s w (by omega));go_enter func16,ntmps16;go_wp2_with fail
  refine(uh YV).mono ?_;rintro e w1 ⟨hb,⟨aY,rfl⟩|⟨h0,X,rfl,hL⟩⟩
  .have d1:((lx s.data.toList:Int)==0)=false:=(by simp;omega);obtain⟨z,hz⟩:∃z,z=lx s.data.toList:=⟨_,rfl⟩;rw[<-hz]at d1 aY ⊢;have HB:=ab hb;have HZ:=ab hz;clear hb YV hz;go_wp2_with fail
   go_ret2;have fy:((z:Int) != 0)=true:=(by simp;omega);exact⟨uh HB,zq0 ⟨zq1 (by rw[<-uh HZ];exact aY),by rw[<-fy];rfl⟩⟩
  .obtain⟨G,hG,cq⟩:=IsL.prg (show IsL w.heap.size w1 X (nY s.data.toList) (bL (nY s.data.toList) aJ) (gR (nY s.data.toList) aJ) from hL);have HN:Hid (Below w.heap.size w (w1.alloc (.cells #[.pointer (some ⟨X,0,none⟩),.string s,.slice none 0 0,.slice none 0 0] 36))/\ZS (w1.alloc (.cells #[.pointer (some ⟨X,0,none⟩),.string s,.slice none 0 0,.slice none 0 0] 36)) w1.heap.size X s/\w.heap.size<=w1.heap.size/\w1.heap.size ∉ G/\rD (w1.alloc (.cells #[.pointer (some ⟨X,0,none⟩),.string s,.slice none 0 0,.slice none 0 0] 36)) X (nY s.data.toList) G/\∀k∈G,w.heap.size<=k):=ab ⟨hb.trans ((ah w1 _).mono hb.size),Bk.new w1 _ _,hb.size,λhm=>by have:=hG.lt _ hm;omega,hG.below (ah w1 _),cq⟩;have H0:=ab h0;clear hb hL hG cq YV h0;go_wp2_with fail
   go_ret2;exact⟨(uh HN).1,zq1 ⟨by omega,uh H0,_,X,G,rfl,(uh HN).2⟩⟩
