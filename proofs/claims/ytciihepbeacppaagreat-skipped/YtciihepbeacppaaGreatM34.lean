import Derived.Test.YtciihepbeacppaaGreatM33
import Derived.Test.YtciihepbeacppaaGreatM31
set_option maxRecDepth 100000
set_option maxHeartbeats 0
namespace Go.Proofs.YtciihepbeacppaaGreat
open Tryz Go.RowKit List World Below
set_option linter.unusedVariables false
section
variable {vs:List UInt8} {f:CF}
theorem Jj{l:List UInt8}(h:l.Nodup){i j:Nat}(hi:i<l.length)(hj:j<l.length)(e:l.getD i 0=l.getD j 0):i=j:=by
 have h1:=Js h hi;have h2:=Js h hj;rw[e]at h1;omega
theorem Jk{l:List UInt8}{i:Nat}(hi:i<l.length):l.getD i 0∈l:=by
 rw[getD_eq_getElem?_getD,getElem?_eq_getElem hi];exact getElem_mem hi
end
theorem Nh{x y:List UInt8}(h:bA x=bA y):x=y:=by
 have:(bA x).data.toList=(bA y).data.toList:=by rw[h]
 exact this
theorem JT{s:PS}(hs:tZ s){k i k' i':Nat}(h:SX s.vars s.hid k i)(h':SX s.vars s.hid k' i')(e:LS s.vars s.hid k i=LS s.vars s.hid k' i'):xy k i=xy k' i':=by
 have one_inj:∀{c d:UInt8},dQ c=dQ d->c=d:=fun {c d} h=>by
  have:(dQ c).data.toList=(dQ d).data.toList:=by rw[h]
  injection this
 have v1:∀{i:Nat},i<s.vars.length->aK (dQ (s.vars.getD i 0))=true:=λhi=>hs.lv _ (Jk hi);have v2:∀{i:Nat},i<s.hid.length->lg (dQ (s.hid.getD i 0))=true:=λhi=>hs.lh _ (Jk hi);have n1:∀{c:UInt8},dQ c≠cD:=fun {c} h=>by
  have:(dQ c).data.toList=cD.data.toList:=by rw[h]
  simp[dQ,cD]at this
 have e1:∀{k i:Nat},k<=2->k=0\/k=1\/k=2:=λh=>by omega
 rcases e1 (i:=0) h.1 with rfl|rfl|rfl <;> rcases e1 (i:=0) h'.1 with rfl|rfl|rfl
 .rfl
 .exact absurd e.symm n1
 .exact absurd e.symm n1
 .exact absurd e n1
 .have:=Jj hs.nv (h.2.1 rfl) (h'.2.1 rfl) (one_inj e);rw[this]
 .have h3:=v1 (h.2.1 rfl);have e:dQ (s.vars.getD i 0)=dQ (s.hid.getD i' 0):=e;rw[e]at h3;have:=Bj _ h3;rw[v2 (h'.2.2 rfl)]at this;cases this
 .exact absurd e n1
 .have h3:=v1 (h'.2.1 rfl);have e:dQ (s.hid.getD i 0)=dQ (s.vars.getD i' 0):=e;rw[<-e]at h3;have:=Bj _ h3;rw[v2 (h.2.2 rfl)]at this;cases this
 .have:=Jj hs.nh (h.2.2 rfl) (h'.2.2 rfl) (one_inj e);rw[this]
theorem Vd{k k':Nat}(h:k<=4)(h0:k≠0)(h':k'<=4)(h0':k'≠0)(e:XS k=XS k'):k=k':=by
 have hk:k=1\/k=2\/k=3\/k=4:=by omega
 have EF:k'=1\/k'=2\/k'=3\/k'=4:=by omega
 have e2:(XS k).data.toList=(XS k').data.toList:=by rw[e]
 rcases hk with rfl|rfl|rfl|rfl <;> rcases EF with rfl|rfl|rfl|rfl <;> first|rfl|(simp[XS,bT,kX,LT,EM]at e2)
theorem Vw{s:PS}(hs:tZ s){a b:cj}(ha:xZ s.vars s.hid a)(hb:xZ s.vars s.hid b)(a0:a.k≠0)(b0:b.k≠0)(e:nmA s.vars s.hid a=nmA s.vars s.hid b):tm a=tm b:=by
 unfold nmA at e;injection e with e1 e2 e3;unfold tm;rw[Vd ha.1 a0 hb.1 b0 e1,JT hs ha.2.1 hb.2.1 e2,JT hs ha.2.2 hb.2.2 e3]
theorem wA{α β γ:Type}{g:α->β}{h:α->γ}{P:α->Prop}(hP:∀a b,P a->P b->g a=g b->h a=h b):∀(l l':List α),(∀a∈l,P a)->(∀a∈l',P a)->l.map g=l'.map g->l.map h=l'.map h
 |[],[],_,_,_=>rfl
 |[],_::_,_,_,e=>by simp at e
 |_::_,[],_,_,e=>by simp at e
 |a::l,b::l',h1,h2,e=>by
  rw[map_cons,map_cons]at e ⊢;injection e with e1 e2;rw[hP a b (h1 a (by simp)) (h2 b (by simp)) e1,wA hP l l' (λx hx=>h1 x (by simp[hx])) (λx hx=>h2 x (by simp[hx])) e2]
def Vp(c:List Nat)(p:Pr):List Nat:=if p.k=1 then c.map (λx=>if x=c.getD p.r 0 then c.getD p.l 0 else x) else c
def prU(c:List Nat)(p:Pr):Pr:=⟨p.k,c.getD p.l 0,c.getD p.r 0⟩
def cfT(L:List Pr):CF:=⟨(L.foldl Vp (range 13)).take 5,(L.filter (λp=>p.k==2)).map (prU (L.foldl Vp (range 13))),(L.filter (λp=>p.k==3||p.k==4)).map (prU (L.foldl Vp (range 13)))⟩
theorem WU(al:List cj):bX al=cfT ((al.filter (λa=>a.k != 0)).map tm):=by
 have hm:∀(l:List cj) (c:List Nat),l.foldl pf c=((l.filter (λa=>a.k != 0)).map tm).foldl Vp c:=by
  intro l;induction l with
  |nil=>intro c;rfl
  |cons a l ih =>
   intro c;rw[foldl_cons,ih];by_cases h0:a.k=0
   .have e1:pf c a=c:=(by unfold pf;rw[if_neg (by omega)]);rw[e1,filter_cons_of_neg (by simp[h0])]
   .rw[filter_cons_of_pos (by simp[h0]),map_cons,foldl_cons];rfl
 have hf:∀(q:Nat->Bool),q 0=false->∀(m:List Nat),(al.filter (λa=>q a.k)).map (jq m)=(((al.filter (λa=>a.k != 0)).map tm).filter (λp=>q p.k)).map (prU m):=by
  intro q hq m;rw[filter_map,filter_filter,map_map];have:al.filter (λa=>q a.k)=al.filter (λa=>((λp:Pr=>q p.k) ∘ tm) a&&(a.k != 0)):=by
   apply filter_congr;intro a _;show q a.k=(q a.k&&(a.k != 0));by_cases h0:a.k=0
   .rw[h0,hq];rfl
   .simp[h0]
  rw[this];rfl
 unfold bX cfT nA;rw[<-hm al (range 13),hf (λk=>k==2) rfl,hf (λk=>k==3||k==4) rfl]
def GL(s s':PS):Prop:=pp s s'/\(tZ s->tZ s')
theorem GL.refl(s:PS):GL s s:=⟨pp.refl s,id⟩
theorem GL.trans{a b c:PS}(h:GL a b)(k:GL b c):GL a c:=⟨h.1.trans k.1,λx=>k.2 (h.2 x)⟩
theorem GL.same{s s':PS}(hv:s'.vars=s.vars)(hh:s'.hid=s.hid):GL s s':=⟨⟨by rw[hv];exact prefix_refl _,by rw[hh];exact prefix_refl _⟩,λh=>⟨by rw[hv];exact h.nv,by rw[hh];exact h.nh,by rw[hv];exact h.lv,by rw[hh];exact h.lh⟩⟩
section
variable {ws:List ByteArray}
theorem mw(k:ByteArray)(s:PS):GL s (aF ws k s):=⟨pR ws k s,qa⟩
theorem It(s:PS):GL s (bE ws s):=⟨OE ws s,Qi⟩
theorem AA(s:PS):GL s (cd ws s):=⟨Iv ws s,Je⟩
theorem pQ(s:PS):GL s s.adv:=GL.same rfl rfl
theorem FA(nd:Nd)(s:PS):GL s (ci nd s):=GL.same rfl rfl
theorem Zz(s:PS):GL s (yW ws s):=by unfold yW;split;exact pQ s;exact mw _ s
theorem aeR(s:PS):GL s (tI ws s):=by
 unfold tI;split
 .exact pQ s
 .exact((It s).trans (Zz _)).trans (AA _)
theorem Xd(s:PS):GL s (gB ws s):=by
 unfold gB MB;exact(((mw _ s).trans (aeR _)).trans (mw _ _)).trans (FA _ _)
theorem aeO(s:PS):GL s (oQ ws s):=by
 unfold oQ;split
 .exact pQ s
 .split
  .exact((AA s).trans (pQ _)).trans (mw _ _)
  .exact AA s
theorem aeV(s:PS):GL s (ix ws s):=by
 unfold ix;split
 .exact pQ s
 .split
  .exact(pQ s).trans (It _)
  .split
   .unfold zN;exact((((It s).trans (pQ _)).trans (mw _ _)).trans (mw _ _)).trans (AA _)
   .exact((It s).trans (mw _ _)).trans (aeO _)
theorem aeU(s:PS):GL s (rK ws s):=by
 unfold rK;exact((aeV s).trans (mw _ _)).trans (FA _ _)
theorem aeP{blk:PS->PS}(hb:∀s,GL s (blk s))(s:PS):GL s (pO blk ws s):=by
 have h1:GL s (cJ blk ws s):=by unfold cJ;exact((mw _ s).trans (Xd _)).trans (hb _)
 unfold pO;split
 .refine h1.trans (GL.trans (b:=lQ s.nodes.length (cJ blk ws s)) (GL.same rfl rfl) ((hb _).trans (GL.same rfl rfl)))
 .exact h1.trans (GL.same rfl rfl)
theorem aeS{blk:PS->PS}(hb:∀s,GL s (blk s))(s:PS):GL s (xY blk ws s):=by
 have h1:GL s (nz blk ws s):=by unfold nz;exact((mw _ s).trans (Xd _)).trans (hb _)
 exact h1.trans (GL.same rfl rfl)
theorem aeQ{blk:PS->PS}(hb:∀s,GL s (blk s))(s:PS):GL s (kA blk ws s):=by
 unfold kA;split
 .exact aeP hb s
 .split
  .exact aeS hb s
  .exact aeU s
theorem OC{c:PS->PS}(hc:∀s,GL s (c s)):∀n s,GL s (ji c ws n s)
 |0,s=>GL.refl s
 |n+1,s=>by
  show GL s (if _ then s else ji c ws n (c s));split
  .exact GL.refl s
  .exact(hc s).trans (OC hc n _)
theorem Xc:∀f s,GL s (cM ws f s)
 |0,s=>GL.refl s
 |f+1,s=>((mw _ s).trans (OC (aeQ (Xc f)) _ _)).trans (mw _ _)
theorem aeT(s:PS):GL (rH ws (aF ws fP s)) (fA ws s):=by
 have h1:GL (rH ws (aF ws fP s)) (EQ ws s):=(Xc _ _).trans (FA _ _);unfold fA;split
 .exact h1
 .exact h1.trans (GL.same rfl rfl)
theorem Jd:tZ bu:=⟨nodup_nil,nodup_nil,λc hc=>(by cases hc),λc hc=>(by cases hc)⟩
theorem aaY:tZ (fA ws bu):=(aeT bu).2 (Qh (qa Jd))
end
def Wv(b:List ByteArray)(C:List pF):Prop:=∀(ws:List ByteArray) (f n:Nat) (q:List ByteArray) (s:PS),b.length<f->b.length<n->gu rF q=false->Rd ws s (b++q) ->
  ∃n' s',ji (kA (cM ws f) ws) ws n s=ji (kA (cM ws f) ws) ws n' s'/\n<=n'+b.length/\Ma ws s s' q (C.map (k9 s.nodes.length))
theorem Wv.app{b b':List ByteArray}{C C':List pF}(h:Wv b C)(h':Wv b' C')(he:∀q,gu rF q=false->gu rF (b'++q)=false):Wv (b++b') (C++C'.map (k9 C.length)):=by
 intro ws f n q s hf hn hq hr;rw[length_append]at hf hn;rw[append_assoc]at hr;obtain⟨n1,s1,e1,l1,L1⟩:=h ws f n (b'++q) s (by omega) (by omega) (he q hq) hr;obtain⟨n2,s2,e2,l2,L2⟩:=h' ws f n1 q s1 (by omega) (by omega) hq L1.1;refine⟨n2,s2,e1.trans e2,by rw[length_append];omega,?_⟩;have:=L1.trans L2;rw[L1.len,length_map]at this;rw[map_append,jr,Nat.add_comm C.length];exact this
theorem Q3{ws f q:List ByteArray}{s:PS}(hf:oL f)(hq:gu bK q=false)(h:Rd ws s (f++q))(hl:f.length<=ws.length+1):Rd ws (rH ws s) q:=by
 have h1:=(BD (ws:=ws)).ok s _ h;rw[Ay hf hl hq]at h1;exact h1
theorem Bg(r:List ByteArray):gu bK (eg::r)=false:=bm (aq (by simp[eg,bK]))
theorem zC{f b:List ByteArray}{C:List pF}(hf:oL f)(hB:Wv b C){ws:List ByteArray}(e:ws=dS::(f++eg::(b++[gC]))):
  ∃N,(fA ws bu).nodes=N++[{ jV with nx:=N.length+1 }]/\Et (fA ws bu).vars 0 N (C.map (k9 0))/\(fA ws bu).failed=false:=by
 have hl:ws.length=f.length+b.length+3:=by rw[e];simp only[length_cons,length_append,length_nil];omega
 have r0:Rd ws bu (fP::(f++eg::(b++[gC]))):=⟨rfl,e,zq5 _⟩;have a1:=eo Gi r0;have r2:=Q3 hf (Bg _) a1.rd (by omega);have a3:=eo (k:=mC) zs r2;have n3:(aF ws mC (rH ws (aF ws fP bu))).nodes=[]:=by rw[a3.nd,ze,a1.nd];rfl
 obtain⟨n',s',e1,l1,r4,IL,N,hN,hNI⟩:=hB ws ws.length (ws.length+2) [gC] _ (by omega) (by omega) D3 a3.rd;obtain⟨n2,rfl⟩:∃n2,n'=n2+1:=⟨n'-1,by omega⟩;rw[vE r4]at e1;have a5:=eo (k:=k8) qV r4;rw[n3]at hN hNI;rw[nil_append]at hN;have hT:EQ ws bu=ci jV (aF ws k8 s'):=by
  show ci jV (aF ws k8 (ji (kA (cM ws ws.length) ws) ws (ws.length+2) (aF ws mC (rH ws (aF ws fP bu)))))=_;rw[e1]
 have hp:(EQ ws bu).pos=ws.length:=by
  rw[hT];have h5:=a5.rd;have h6:=congrArg List.length h5.2.1;rw[length_drop,length_nil]at h6;have h7:=h5.2.2;show(aF ws k8 _).pos=ws.length;omega
 have hS:fA ws bu=EQ ws bu:=if_pos hp;rw[hS,hT];refine⟨N,?_,hNI _ a5.vs,a5.rd.1⟩;show(aF ws k8 s').nodes++[{ jV with nx:=(aF ws k8 s').nodes.length+1 }]=_;rw[a5.nd,hN]
theorem abH{l:List UInt8}(h:mQ l=0):∃f b k,oL f/\iD b k/\qf l=dS::(f++eg::(b++[gC])):=by
 obtain⟨-,-,hf,-,-⟩:=ro h;apply Classical.byContradiction;intro hc;have:(fA (qf l) bu).failed=true:=VP (λk hk=>by
  obtain⟨j,⟨f,b,h1,h2,h3⟩,-⟩:=QN hk;exact hc ⟨f,b,j,h1,h2,h3⟩)
 have hf:(fA (qf l) bu).failed=false:=hf;rw[hf]at this;cases this
def Lv(z:List ByteArray)(d:Bool):List ByteArray->List ByteArray × Bool
 |[]=>(z,d)
 |x::r=>Lv (eE (aK x&&!d) z x) (aX x a6) r
def Qs(z:List ByteArray):List ByteArray->List ByteArray
 |[]=>z
 |x::r=>Qs (eE (lg x) z x) r
theorem re:∀(a b:List ByteArray) (z:List ByteArray) (d:Bool),Lv z d (a++b)=Lv (Lv z d a).1 (Lv z d a).2 b
 |[],_,_,_=>rfl
 |x::a,b,z,d=>re a b _ _
theorem uB:∀(a b:List ByteArray) (z:List ByteArray),Qs z (a++b)=Qs (Qs z a) b
 |[],_,_=>rfl
 |x::a,b,z=>uB a b _
theorem Qu(l:List ByteArray):∀k,k<=l.length->Lv [] false (l.take k)=(ST l k,aeG l k)/\Qs [] (l.take k)=SR l k
 |0,_=>⟨rfl,rfl⟩
 |k+1,hk=>by
  obtain⟨h1,h2⟩:=Qu l k (by omega);have hg:l[k]?.getD em=l[k]:=by rw[getElem?_eq_getElem (by omega)];rfl
  rw[take_succ_eq_append_getElem (by omega),re,uB,h1,h2];refine⟨?_,?_⟩
  .show(eE (aK l[k]&&!aeG l k) (ST l k) l[k],aX l[k] a6)=(eE (aK (l[k]?.getD em)&&!aeG l k) (ST l k) (l[k]?.getD em),aX (l[k]?.getD em) a6);rw[hg]
  .show eE (lg l[k]) (SR l k) l[k]=eE (lg (l[k]?.getD em)) (SR l k) (l[k]?.getD em);rw[hg]
theorem DZ{ws:List ByteArray}(hf:(fA ws bu).failed=false):(fA ws bu).vars.map dQ=(Lv [] false ws).1/\(fA ws bu).hid.map dQ=Qs [] ws:=by
 have hp:(fA ws bu).pos=ws.length:=by
  unfold fA at hf ⊢;by_cases hp:(EQ ws bu).pos=ws.length
  .rw[if_pos hp];exact hp
  .rw[if_neg hp]at hf;cases hf
 have hi:=U8 (ws:=ws) bu (IR _) hf;rw[hp]at hi;obtain⟨-,hv,hh⟩:=hi;obtain⟨h1,h2⟩:=Qu ws ws.length (zq4 _);rw[take_length]at h1 h2;rw[h1,h2];exact⟨hv.symm,hh.symm⟩
theorem uC{a b:List UInt8}(h:a.map dQ=b.map dQ):a=b:=(map_inj_right (λc d h=>by
 have:(dQ c).data.toList=(dQ d).data.toList:=by rw[h]
 injection this)).1 h
theorem Jw{f:List ByteArray}(hf:oL f)(q:List ByteArray):∃al,SU [] f=some al/\al=Qt (rH (dS::(f++eg::q)) (aF (dS::(f++eg::q)) fP bu)).vars (rH (dS::(f++eg::q)) (aF (dS::(f++eg::q)) fP bu)).hid (mD (dS::(f++eg::q)) bu) /\
   (∀a∈mD (dS::(f++eg::q)) bu,xZ (rH (dS::(f++eg::q)) (aF (dS::(f++eg::q)) fP bu)).vars (rH (dS::(f++eg::q)) (aF (dS::(f++eg::q)) fP bu)).hid a) /\
   tZ (rH (dS::(f++eg::q)) (aF (dS::(f++eg::q)) fP bu))/\(rH (dS::(f++eg::q)) (aF (dS::(f++eg::q)) fP bu)).vars.map dQ=(Lv [] false (dS::f)).1/\(rH (dS::(f++eg::q)) (aF (dS::(f++eg::q)) fP bu)).hid.map dQ=Qs [] (dS::f):=by
 obtain⟨ws,IP⟩:∃ws,ws=dS::(f++eg::q):=⟨_,rfl⟩;have hl:f.length<=ws.length+1:=by rw[IP];simp;omega
 have r0:Rd ws bu (fP::(f++eg::q)):=⟨rfl,IP,zq5 _⟩;rw[<-IP];have a1:=eo Gi r0;have r2:=Q3 hf (Bg q) a1.rd hl;obtain⟨al,g1,g2,g3⟩:=aeM hf (n:=ws.length+1) a1.rd hl (Bg q);have hi:=IW _ (ahG bu (IR ws)) r2.1;have hp:(rH ws (aF ws fP bu)).pos=f.length+1:=by
  have h1:=congrArg List.length r2.2.1;have h2:=r2.2.2;rw[IP]at h1 h2;simp only[length_drop,length_append,length_cons]at h1 h2;rw[<-IP]at h1 h2;omega
 rw[hp]at hi;obtain⟨-,hv,hh⟩:=hi;obtain⟨k1,k2⟩:=Qu ws (f.length+1) (by rw[IP];simp);have ht:ws.take (f.length+1)=dS::f:=by rw[IP];simp
 rw[ht]at k1 k2;refine⟨al,g1,g2,g3,Qh (qa Jd),?_,?_⟩
 .rw[k1];exact hv.symm
 .rw[k2];exact hh.symm
theorem QO{f q q':List ByteArray}(hf:oL f):bX (mD (dS::(f++eg::q)) bu)=bX (mD (dS::(f++eg::q')) bu):=by
 obtain⟨al,g1,g2,g3,g4,g5,g6⟩:=Jw hf q;obtain⟨al',h1,h2,h3,h4,h5,h6⟩:=Jw hf q';rw[g1]at h1;injection h1 with h1;have ev:=uC (g5.trans h5.symm);have eh:=uC (g6.trans h6.symm);rw[<-ev,<-eh]at h2 h3;rw[WU,WU];refine congrArg cfT (wA (g:=nmA _ _) (P:=λa=>xZ _ _ a/\a.k≠0) (λa b ha hb si=>Vw g4 ha.1 hb.1 ha.2 hb.2 si) _ _ (λa ha=>?_) (λa ha=>?_) (g2.symm.trans (h1.trans h2)))
 .obtain⟨k1,k2⟩:=mem_filter.1 ha;exact⟨g3 a k1,by simpa using k2⟩
 .obtain⟨k1,k2⟩:=mem_filter.1 ha;exact⟨h3 a k1,by simpa using k2⟩
theorem IE(nds:List Nd)(i:Nat):∀(l:List Nat) {h:List Bool},h.length=nds.length->(l.foldl (λh j=>if jb nds j=true then h.set (nds.getD j aI).nx true else h) h).length=nds.length /\
  ((l.foldl (λh j=>if jb nds j=true then h.set (nds.getD j aI).nx true else h) h).getD i false=true↔h.getD i false=true\/(i<nds.length/\∃j∈l,jb nds j=true/\(nds.getD j aI).nx=i))
 |[],h,hl=>⟨hl,by simp⟩
 |j::l,h,hl=>by
  rw[foldl_cons];obtain⟨g1,g2⟩:=IE nds i l (h:=if jb nds j=true then h.set (nds.getD j aI).nx true else h) (by split;rw[length_set];exact hl;exact hl);refine⟨g1,g2.trans ?_⟩;by_cases hb:jb nds j=true
  .rw[if_pos hb];by_cases hn:(nds.getD j aI).nx<h.length
   .rw[du _ _ _ _ _ hn];by_cases e:(nds.getD j aI).nx=i
    .rw[if_pos e];constructor
     .intro _;exact zq1 ⟨by rw[<-hl,<-e];exact hn,j,by simp,hb,e⟩
     .intro _;exact zq0 rfl
    .rw[if_neg e];constructor
     .rintro(h1|⟨h1,x,h2,h3⟩)
      .exact zq0 h1
      .exact zq1 ⟨h1,x,by simp[h2],h3⟩
     .rintro(h1|⟨h1,x,h2,h3⟩)
      .exact zq0 h1
      .rcases mem_cons.1 h2 with rfl|h2
       .exact absurd h3.2 e
       .exact zq1 ⟨h1,x,h2,h3⟩
   .rw[set_eq_of_length_le (by omega)];constructor
    .rintro(h1|⟨h1,x,h2,h3⟩)
     .exact zq0 h1
     .exact zq1 ⟨h1,x,by simp[h2],h3⟩
    .rintro(h1|⟨h1,x,h2,h3⟩)
     .exact zq0 h1
     .rcases mem_cons.1 h2 with rfl|h2
      .omega
      .exact zq1 ⟨h1,x,h2,h3⟩
  .rw[if_neg hb];constructor
   .rintro(h1|⟨h1,x,h2,h3⟩)
    .exact zq0 h1
    .exact zq1 ⟨h1,x,by simp[h2],h3⟩
   .rintro(h1|⟨h1,x,h2,h3⟩)
    .exact zq0 h1
    .rcases mem_cons.1 h2 with rfl|h2
     .exact absurd h3.1 hb
     .exact zq1 ⟨h1,x,h2,h3⟩
theorem uq(nds:List Nd)(i:Nat):(Ml nds).getD i false=true↔i<nds.length/\∃j,j<nds.length/\jb nds j=true/\(nds.getD j aI).nx=i:=by
 have:=(IE nds i (range nds.length) (h:=replicate nds.length false) (by simp)).2;unfold Ml;rw[this];have h0:(replicate nds.length false).getD i false=false:=by
  rw[getD_eq_getElem?_getD,getElem?_replicate];split <;> rfl
 rw[h0];simp
section
variable {f b:List ByteArray} {k:Nat}
theorem Et.at{vs:List UInt8}{n:Nat}{N:List Nd}{C:List pF}(h:Et vs n N C){j:Nat}(hj:j<C.length):NI vs (n+j) (N.getD j aI) C[j]:=by
 have hl:=h.len;refine h.get j _ _ ?_ (getElem?_eq_getElem hj);rw[getD_eq_getElem?_getD,getElem?_eq_getElem (by omega)];rfl
theorem r9{A:List Nd}{e:Nd}{j:Nat}(h:j<A.length):(A++[e]).getD j aI=A.getD j aI:=by
 rw[getD_eq_getElem?_getD,getElem?_append_left h,<-getD_eq_getElem?_getD]
theorem zh{A:List Nd}{e:Nd}:(A++[e]).getD A.length aI=e:=by
 rw[getD_eq_getElem?_getD,getElem?_append_right (zq4 _)];simp
def bN(f b:List ByteArray):List ByteArray:=dS::(f++eg::(b++[gC]))
theorem TA(hb:iD b k):∀q,gu rF q=false->gu rF (b++q)=false:=λ_ hq=>Nn hb hq
end
section
variable {m nv:Nat} {al:List cj}
theorem ahc:Kd (sX (bX al) nv):=by
 intro p hp;obtain⟨a,ha,rfl⟩:=mem_map.1 (show p∈(al.filter (λa=>a.k==3||a.k==4)).map (jq (nA al)) from hp);have:=(mem_filter.1 ha).2;show a.k=3\/a.k=4;simpa using this
theorem Gj(ht:vq al)(hf:gI (bX al)=false):ju (aQ (sX (bX al) nv)):=by
 have fq:=kD (mT ht hf) nv;exact⟨ahc.td,qc fq,(aa9 hf nv).td fq⟩
end
def BU(k:Nat)(l:List (Nat × Nat)):List (Nat × Nat):=l.map (λp=>(p.1+k,p.2))
section
variable {w:World} {B B':Nat} {va vb:Value}
theorem xe{a b:List (Nat × Nat)}(m:Nat)(hm:m<=1000)(ha:w.ownsRow B 82 2 va a.length (xM a))(hb:w.ownsRow B' 82 2 vb b.length (xM b))(hs:∀p∈a,p.1<=1000000):
  Calls prog 42 #[va,vb,.int .i64 m] w λe w'=>e=.returned (.bool (decide (BU m a=b)))/\∃n,w'=w.drewN n:=by
 obtain⟨aa,ac,rfl,ha1,ha2⟩:=am ha;obtain⟨ba,bc,rfl,bB,aW⟩:=am hb;have yv:(BU m a).length=a.length:=by simp[BU]
 by_cases hl:a.length=b.length
 .have d0:((a.length:Int)==(b.length:Int))=true:=by simp;omega
  have HL:=ab hl;have HA:=ab ha;have HB:=ab hb;rw[<-hl]at bB d0;rw[<-hl];clear ha hb;go_enter func42,ntmps42;clear hl;go_wp2_with fail
  go_loopg [7] a.length (λgn iv wx=>∃(k:Nat),k+gn=a.length/\iv=.int .i64 k/\Hid ((∃n,wx=w.drewN n)/\∀i,(hi:i<a.length)->(hj:i<b.length)->i<k->(a[i].1+m,a[i].2)=b[i]))
  case atStart=>exact⟨0,by omega,rfl,ab ⟨⟨0,rfl⟩,λi _ _ h=>by omega⟩⟩
  case round =>
   obtain⟨k,gw,rfl,hI⟩:=hrel;obtain⟨G1,zi⟩:∃G1,G1=gk:=⟨_,rfl⟩;obtain⟨⟨n,rfl⟩,ee⟩:=uh hI;by_cases au:k<a.length
   .have hd:decide ((k:Int)<(a.length:Int))=true:=(by simp;omega);have EH:k<b.length:=(by have:=uh HL;omega);obtain⟨g,cap,dF,-,-⟩:=b9 (uh HA) (by omega);simp only[Value.slice.injEq,true_and]at dF;obtain⟨rfl,rfl⟩:=dF;obtain⟨g2,cap2,dc,-,-⟩:=b9 (uh HB) (by omega);simp only[Value.slice.injEq,true_and]at dc;obtain⟨rfl,rfl⟩:=dc;have x0:w.cell? ⟨g,k*2,none⟩=some (.int .i64 (a[k].1:Int)):=((uh HA).cellAt (k*2) (by omega)).trans (nR au).1;have x1:w.cell? ⟨g,k*2+1,none⟩=some (.int .i64 (a[k].2:Int)):=((uh HA).cellAt (k*2+1) (by omega)).trans (nR au).2;have y0:w.cell? ⟨g2,k*2,none⟩=some (.int .i64 (b[k].1:Int)):=((uh HB).cellAt (k*2) (by omega)).trans (nR EH).1;have y1:w.cell? ⟨g2,k*2+1,none⟩=some (.int .i64 (b[k].2:Int)):=((uh HB).cellAt (k*2+1) (by omega)).trans (nR EH).2;have SK:=hs a[k] (getElem_mem au);obtain⟨p,hp⟩:∃p,p=a[k]:=⟨_,rfl⟩;obtain⟨q,hq⟩:∃q,q=b[k]:=⟨_,rfl⟩;rw[<-hp]at x0 x1 SK;rw[<-hq]at y0 y1;obtain⟨p1,p2⟩:=p;obtain⟨q1,q2⟩:=q;simp only at x0 x1 y0 y1 SK;have k1:(0:Int)<=(k:Int):=(by omega);have k2:(k:Int)<(a.length:Int):=(by omega);have ewr:IntKind.i64.wrap ((p1:Int)+(m:Int))=(p1:Int)+(m:Int):=(by rw[IntKind.wrap_i64];omega);by_cases h2:p2=q2
    .have e2:((p2:Int) != (q2:Int))=false:=(by simp;omega);by_cases h1:p1+m=q1
     .have e1:((p1:Int)+(m:Int) != (q1:Int))=false:=(by simp;omega);have HN:Hid (∀i,(hi:i<a.length)->(hj:i<b.length)->i<k+1->(a[i].1+m,a[i].2)=b[i]):=ab (λi hi hj h=>by
       by_cases e:i=k
       .subst e;rw[<-hp,<-hq];simp only;rw[h1,h2]
       .exact ee i hi hj (by omega))
      clear h1 h2 hp hq ee hI SK hs yv;go_upto_region 6 with fail;go_quiet (fail)
      go_wp2_with fail
      go_roundg (G1-1)
      case rel=>exact⟨k+1,by omega,by go_num,ab ⟨⟨_,rfl⟩,uh HN⟩⟩
      case measure=>omega
     .have e1:((p1:Int)+(m:Int) != (q1:Int))=true:=(by simp;omega);have HN:Hid (decide (BU m a=b)=false):=ab (by
       rw[decide_eq_false_iff_not];intro e;have h9:(BU m a)[k]?=b[k]?:=(by rw[e]);rw[getElem?_eq_getElem EH,<-hq]at h9;unfold BU at h9;rw[getElem?_map,getElem?_eq_getElem au,<-hp]at h9;simp at h9;exact h1 h9.1)
      clear h1 h2 hp hq ee hI SK hs yv;go_upto_region 6 with fail;go_quiet (fail)
      go_wp2_with fail
      go_ret;exact⟨by rw[uh HN];rfl,by first|exact⟨_,rfl⟩|exact⟨_,drewN_drewN _ _ _⟩⟩
    .have e2:((p2:Int) != (q2:Int))=true:=(by simp;omega);have HN:Hid (decide (BU m a=b)=false):=ab (by
      rw[decide_eq_false_iff_not];intro e;have h9:(BU m a)[k]?=b[k]?:=(by rw[e]);rw[getElem?_eq_getElem EH,<-hq]at h9;unfold BU at h9;rw[getElem?_map,getElem?_eq_getElem au,<-hp]at h9;simp at h9;exact h2 h9.2)
     clear h2 hp hq ee hI SK hs yv;go_upto_region 6 with fail;go_quiet (fail)
     go_wp2_with fail
     go_ret;exact⟨by rw[uh HN];rfl,by first|exact⟨_,rfl⟩|exact⟨_,drewN_drewN _ _ _⟩⟩
   .have hd:decide ((k:Int)<(a.length:Int))=false:=(by simp;omega);have HN:Hid (decide (BU m a=b)=true):=ab (by
     rw[decide_eq_true_eq];refine ext_getElem (by rw[yv];exact uh HL) (λi h1 h2=>?_);have h3:i<a.length:=(by omega);rw[<-ee i h3 h2 (by omega)];simp[BU])
    clear ee hI hs yv;go_wp2_with fail
    go_ret;exact⟨by rw[uh HN];rfl,by first|exact⟨_,rfl⟩|exact⟨_,drewN_drewN _ _ _⟩⟩
 .have d0:((a.length:Int)==(b.length:Int))=false:=by simp;omega
  have HN:Hid (decide (BU m a=b)=false):=ab (by rw[decide_eq_false_iff_not];intro e;exact hl (by rw[<-yv,e]));clear ha hb hl hs yv;go_enter func42,ntmps42;go_wp2_with fail
  go_ret;exact⟨by rw[uh HN];rfl,0,rfl⟩
end
theorem ab2(nds:List Nd)(n k:Nat):sY (nM nds) n k=false:=by
 unfold sY nM;simp only[getD_eq_getElem?_getD,getElem?_replicate];split
 .simp only[Option.getD_some,getElem?_replicate];split <;> rfl
 .rfl
theorem oI(nds:List Nd)(J:Nat->CF->Prop)(Fl:Nat->Nat->Prop):ik nds.length J Fl (nM nds) :=
 ⟨JN nds,λn e he=>by rw[Ru]at he;simp at he,λn k _ h=>by rw[ab2]at h;cases h⟩
theorem vU{nds:List Nd}{nv:Nat}{al:List cj}(h:(mG nds nv al).lp=false)(n:Nat):(mG nds nv al).hd.getD n false=false:=by
 cases hh:(mG nds nv al).hd.getD n false with
 |false=>rfl
 |true =>
  obtain⟨-,j,hj,hb,-⟩:=(uq nds n).1 hh;have h:(range nds.length).any (jb nds)=false:=h;rw[any_eq_false]at h;exact absurd hb (h j (mem_range.2 hj))
structure Fin(c:Cd)(nds:List Nd)(al:List cj)(nv:Nat)(S:Sr):Prop where
 cl:∀n,∀e∈br S n,Ww c S n e.f
 td:qo S
 kl:EnN ju S
 beg:gI (bX al)=false->R5 c S (nds.length-1) 0 (aQ (sX (bX al) nv))
section
variable {nds:List Nd} {nv:Nat} {al:List cj}
theorem Ot(hA:MD al)(hO:sS nds)(hp:0<nds.length)(hN:Nf (rE nds nv al)):Fin (mG nds nv al) nds al nv (rE nds nv al):=by
 obtain⟨c,hc⟩:∃c,c=mG nds nv al:=⟨_,rfl⟩;have kH:c.nds=nds:=by rw[hc];rfl
 unfold rE at hN ⊢;rw[<-hc]at hN ⊢;have h0:=JN nds;obtain⟨s1,dA⟩:∃s1,s1=ip c 4000 nv al (nM nds):=⟨_,rfl⟩;rw[<-dA]at hN ⊢;have hE:kk nds.length s1/\jC (nM nds) s1/\ik nds.length (λ_ f=>ju f) (λ_ _=>True) s1/\(Nf s1->gI (bX al)=false->R5 c s1 (nds.length-1) 0 (aQ (sX (bX al) nv))):=by
  rw[dA];unfold ip;rw[kH];by_cases lu:gI (bX al)=true
  .rw[if_pos lu];exact⟨h0,jC.refl _,oI _ _ _,λ_ h=>by rw[lu]at h;cases h⟩
  .rw[if_neg lu];have hf:gI (bX al)=false:=(by simpa using lu);have fq:=kD (mT hA.tm hf) nv;exact⟨(Af (c:=c) fq.tidy h0 (by omega) (by omega)).2.1,Hs fq.tidy h0 (by omega) (by omega),ub (by omega) (by omega) fq.tidy (oI _ _ _) (Ba fq.tidy (Gj hA.tm hf)),λhN _=>M7 fq.tidy h0 (by omega) (by omega) hN⟩
 obtain⟨e1,e2,e3,e4⟩:=hE;obtain⟨r1,r2,-⟩:=BT (c:=c) (fuel:=4000) (by rw[kH]) (by rw[kH];exact hO) 1000000 e1;have rI:Nf s1:=hN.of r1 (nJ _);refine⟨Re (by rw[kH]) (by rw[kH];exact hO) 1000000 e1 hN (λn e he hd=>?_),r2.td,(uN (Vb (by rw[kH]) (by rw[kH];exact hO)) 1000000 e3).kn,λhf=>(e4 rI hf).mono r1⟩;have:=e2 n e he hd;rw[Ru]at this;simp at this
end
structure yK(nds nds':List Nd)(k:Nat):Prop where
 l:nds.length=k+1
 l':nds'.length=k+2
 s:(nds'.getD 0 aI).op=6/\(nds'.getD 0 aI).nx=1
 n:∀i,i<k->(nds'.getD (i+1) aI).op=(nds.getD i aI).op/\(∀f,cn (nds'.getD (i+1) aI) f=cn (nds.getD i aI) f)/\(nds'.getD (i+1) aI).nx=(nds.getD i aI).nx+1/\((nds.getD i aI).op=7\/(nds.getD i aI).op=8\/(nds.getD i aI).op=9->(nds'.getD (i+1) aI).ot=(nds.getD i aI).ot+1)
 e:(nds.getD k aI).op=0
 e':(nds'.getD (k+1) aI).op=0
section
variable {nds nds':List Nd} {k nv:Nat} {al al':List cj}
theorem TM{nd nd':Nd}(h:nd.op=0)(h':nd'.op=0)(f:CF):cn nd' f=cn nd f:=by
 unfold cn;rw[if_pos h,if_pos h']
theorem yK.bk(h:yK nds nds' k){j:Nat}(hj:j<k+1):jb nds' (j+1)=jb nds j:=by
 unfold jb;by_cases hk:j<k
 .obtain⟨h1,-,h3,-⟩:=h.n j hk;rw[h1,h3];congr 1;simp
 .have:j=k:=by omega
  rw[this,h.e,h.e'];rfl
theorem yK.b0(h:yK nds nds' k):jb nds' 0=false:=by
 unfold jb;rw[h.s.1];rfl
theorem yK.lp(h:yK nds nds' k):(mG nds' nv al').lp=(mG nds nv al).lp:=by
 show(range nds'.length).any (jb nds')=(range nds.length).any (jb nds);rw[Bool.eq_iff_iff,any_eq_true,any_eq_true,h.l,h.l'];constructor
 .rintro⟨j,hj,h1⟩;have hj:=mem_range.1 hj;cases j with
  |zero=>rw[h.b0]at h1;cases h1
  |succ j=>exact⟨j,mem_range.2 (by omega),by rw[<-h.bk (by omega)];exact h1⟩
 .rintro⟨j,hj,h1⟩;have hj:=mem_range.1 hj;exact⟨j+1,mem_range.2 (by omega),by rw[h.bk (by omega)];exact h1⟩
theorem yK.nxt(h:yK nds nds' k){j:Nat}(hj:j<k+1)(hb:jb nds j=true):(nds'.getD (j+1) aI).nx=(nds.getD j aI).nx+1:=by
 by_cases hk:j<k
 .exact(h.n j hk).2.2.1
 .have:j=k:=by omega
  rw[this]at hb;unfold jb at hb;rw[h.e]at hb;cases hb
theorem yK.hd(h:yK nds nds' k)(i:Nat):(Ml nds').getD (i+1) false=(Ml nds).getD i false:=by
 rw[Bool.eq_iff_iff,uq,uq,h.l,h.l'];constructor
 .rintro⟨hi,j,hj,h1,h2⟩;cases j with
  |zero=>rw[h.b0]at h1;cases h1
  |succ j =>
   rw[h.bk (by omega)]at h1;rw[h.nxt (by omega) h1]at h2;exact⟨by omega,j,by omega,h1,by omega⟩
 .rintro⟨hi,j,hj,h1,h2⟩;exact⟨by omega,j+1,by omega,by rw[h.bk (by omega)];exact h1,by rw[h.nxt (by omega) h1,h2]⟩
theorem yK.h0(h:yK nds nds' k):(Ml nds').getD 0 false=false:=by
 cases hh:(Ml nds').getD 0 false with
 |false=>rfl
 |true =>
  obtain⟨-,j,hj,h1,h2⟩:=(uq nds' 0).1 hh;rw[h.l']at hj;cases j with
  |zero=>rw[h.b0]at h1;cases h1
  |succ j =>
   rw[h.bk (by omega)]at h1;rw[h.nxt (by omega) h1]at h2;omega
theorem yK.ndx(h:yK nds nds' k){i:Nat}(hi:i<k+1):NdX (nds.getD i aI) (nds'.getD (i+1) aI):=by
 by_cases hk:i<k
 .exact⟨(h.n i hk).1,(h.n i hk).2.1⟩
 .have:i=k:=by omega
  rw[this];exact⟨by rw[h.e,h.e'],TM h.e h.e'⟩
theorem yK.go(h:yK nds nds' k){i:Nat}(hi:i<k+1):((nds.getD i aI).op≠0->(nds'.getD (i+1) aI).nx=(nds.getD i aI).nx+1)/\((nds.getD i aI).op=7\/(nds.getD i aI).op=8\/(nds.getD i aI).op=9->(nds'.getD (i+1) aI).ot=(nds.getD i aI).ot+1):=by
 by_cases hk:i<k
 .exact⟨λ_=>(h.n i hk).2.2.1,(h.n i hk).2.2.2⟩
 .have:i=k:=by omega
  rw[this];exact⟨λh9=>absurd h.e h9,λh9=>by rw[h.e]at h9;omega⟩
theorem ab0(h:yK nds nds' k)(m6:bX al'=bX al)(hO:sS nds)(OP:sS nds')(hA:MD al){S':Sr}(hF:Fin (mG nds' nv al') nds' al' nv S'):∀n j,j=2\/j=3\/j=4->sY (rE nds nv al) n j=true->sY S' (n+1) j=true:=by
 have hP:Pla (mG nds' nv al') (mG nds nv al) nds.length S' (λn=>n+1) (λ_=>True):=by
  refine⟨rfl,OP,hO,h.lp.symm,λhl n=>vU hl n,λhl n=>vU hl n,λm hm _=>?_,λm _=>(h.hd m).symm,λm hm=>absurd trivial hm,λm _ hm=>absurd trivial hm,hF.cl,hF.td,hF.kl⟩;rw[h.l]at hm;obtain⟨g1,g2⟩:=h.go hm;have gx:=h.ndx hm;exact⟨⟨gx.op.symm,λf=>(gx.ef f).symm⟩,λh9=>⟨(g1 h9).symm,trivial⟩,λh9=>⟨(g2 h9).symm,trivial⟩⟩
 have hI:=Jr hP;have hS:ik nds.length (Jm (mG nds' nv al') S' (λn=>n+1) (λ_=>True)) (Flm S' (λn=>n+1) (λ_=>True)) (ip (mG nds nv al) 4000 nv al (nM nds)):=by
  unfold ip;by_cases lu:gI (bX al)=true
  .rw[if_pos lu];exact oI _ _ _
  .rw[if_neg lu];have hf:gI (bX al)=false:=(by simpa using lu);have fq:=kD (mT hA.tm hf) nv;have gK:=Gj (nv:=nv) hA.tm hf;obtain⟨f0,Mp⟩:∃f0,f0=aQ (sX (bX al) nv):=⟨_,rfl⟩;have hb:=hF.beg (by rw[m6];exact hf);have ss:Td f0:=(by rw[Mp];exact fq.tidy);rw[m6,<-Mp]at hb;rw[<-Mp]at gK;show ik _ _ _ (dV (mG nds nv al) 4000 (nds.length-1) 0 (aQ (sX (bX al) nv)) (nM nds));rw[<-Mp];have hC:=qv (c:=mG nds' nv al') (λhl n=>vU hl n) hb ss gK ss gK (tC.refl ss.ok gK);refine ub (by rw[h.l];omega) (by rw[h.l];omega) ss (oI _ _ _) (vx hP ss (zq0 trivial) gK (y:=f0) ?_);have el:nds.length-1+1=nds'.length-1:=by rw[h.l,h.l'];rfl
   -- from node 0 of the second to its node 1
   have fD:∀{F z:CF} ,Td F->ju F->(∃e∈br S' 0,e.f=z)->rL F z->SZ (mG nds' nv al') S' 0 1 (aQ z) F:=fun {F z} gg kF1 hz hE=>by
    obtain⟨e,he,rfl⟩:=hz;have dU:=(hF.cl 0 e he).nx;have htz:=hF.td.at 0 e he;have hkz:=hF.kl 0 e he;have e6:(mG nds' nv al').nds.getD 0 aI=nds'.getD 0 aI:=rfl;rw[e6,qz h.s.1,h.s.2]at dU;exact qv (λhl n=>vU hl n) (dU _ (mem_singleton.2 rfl)) htz.ok.tidy (P2 htz.ok hkz) gg kF1 (hE.tV htz.ok)
   refine⟨λhl jP=>by rw[el];exact hC.fl hl jP,λhl=>?_,λhl G hG hc=>?_⟩
   .obtain⟨e,he,hE⟩:=hC.no hl;exact(fD ss gK ⟨e,he,rfl⟩ hE).no hl
   .obtain⟨kG,e,he,hE,-⟩:=hC.yes hl G hG hc;have hr:=xd hG;have:=(fD hr (Bd hG.ok kG) ⟨e,he,rfl⟩ hE).yes hl (rs G) hr (Wx.refl _);rw[X4 (Qb hG.ok)]at this;exact⟨kG,this.2⟩
 intro n j hj jx;exact((uN hI 1000000 hS).fl n j hj jx).2
theorem abZ(h:yK nds nds' k)(m6:bX al'=bX al)(hO:sS nds)(OP:sS nds')(hA:MD al){S:Sr}(hF:Fin (mG nds nv al) nds al nv S):∀n j,j=2\/j=3\/j=4->sY (rE nds' nv al') n j=true->n≠0/\sY S (n-1) j=true:=by
 have hP:Pla (mG nds nv al) (mG nds' nv al') nds'.length S (λn=>n-1) (λn=>n≠0):=by
  refine⟨rfl,hO,OP,h.lp,λhl n=>vU hl n,λhl n=>vU hl n,λm hm hm0=>?_,λm hm=>?_,λm hm=>?_,λm _ hm=>?_,hF.cl,hF.td,hF.kl⟩
  .obtain⟨i,rfl⟩:∃i,m=i+1:=⟨m-1,by omega⟩;rw[h.l']at hm;obtain⟨g1,g2⟩:=h.go (i:=i) (by omega);have gx:=h.ndx (i:=i) (by omega);have e1:(mG nds' nv al').nds=nds':=rfl;have e2:(mG nds nv al).nds=nds:=rfl;rw[e1,e2,Nat.add_sub_cancel];refine⟨gx,λh9=>?_,λh9=>?_⟩
   .rw[gx.op]at h9;rw[g1 h9];exact⟨by omega,by omega⟩
   .rw[gx.op]at h9;rw[g2 h9];exact⟨by omega,by omega⟩
  .obtain⟨i,rfl⟩:∃i,m=i+1:=⟨m-1,by omega⟩;rw[Nat.add_sub_cancel];exact h.hd i
  .have:m=0:=(by omega);rw[this];exact h.h0
  .have:m=0:=(by omega);rw[this];have e1:(mG nds' nv al').nds=nds':=rfl;rw[e1,h.s.2];exact⟨h.s.1,rfl,by omega⟩
 have hI:=Jr hP;have hS:ik nds'.length (Jm (mG nds nv al) S (λn=>n-1) (λn=>n≠0)) (Flm S (λn=>n-1) (λn=>n≠0)) (ip (mG nds' nv al') 4000 nv al' (nM nds')):=by
  unfold ip;rw[m6];by_cases lu:gI (bX al)=true
  .rw[if_pos lu];exact oI _ _ _
  .rw[if_neg lu];have hf:gI (bX al)=false:=(by simpa using lu);have fq:=kD (mT hA.tm hf) nv;have gK:=Gj (nv:=nv) hA.tm hf;have hb:=hF.beg hf;obtain⟨f0,Mp⟩:∃f0,f0=aQ (sX (bX al) nv):=⟨_,rfl⟩;have ss:Td f0:=(by rw[Mp];exact fq.tidy);rw[<-Mp]at hb gK;show ik _ _ _ (dV (mG nds' nv al') 4000 (nds'.length-1) 0 (aQ (sX (bX al) nv)) (nM nds'));rw[<-Mp];refine ub (by rw[h.l'];omega) (by rw[h.l'];omega) ss (oI _ _ _) (vx hP ss (zq0 (by rw[h.l'];omega)) gK (y:=f0) ?_);have el:nds'.length-1-1=nds.length-1:=(by rw[h.l,h.l'];rfl);show SZ _ _ (nds'.length-1-1) (0-1) _ _;rw[el];exact qv (λhl n=>vU hl n) hb ss gK ss gK (tC.refl ss.ok gK)
 intro n j hj jx;exact(uN hI 1000000 hS).fl n j hj jx
theorem abY(h:yK nds nds' k)(m6:bX al'=bX al)(hO:sS nds)(OP:sS nds')(hA:MD al)(hA':MD al')(hN:Nf (rE nds nv al))(hN':Nf (rE nds' nv al')):(ye nds' nv al').al=BU 1 (ye nds nv al).al/\(ye nds' nv al').vd=(ye nds nv al).vd:=by
 have h1:=ab0 h m6 hO OP hA (Ot hA' OP (by rw[h.l'];omega) hN');have h2:=abZ h m6 hO OP hA (Ot hA hO (by rw[h.l];omega) hN);have hw:=Hp nds nv al;have hw':=Hp nds' nv al';rw[h.l]at hw;rw[h.l']at hw';have key:Hl (rE nds' nv al').wr=BU 1 (Hl (rE nds nv al).wr):=by
  unfold Hl BU;rw[hw,hw',range_succ_eq_map,flatMap_cons,flatMap_map,map_flatMap];have e0:([2,3,4].filter (λk=>((rE nds' nv al').wr.getD 0 []).getD k false))=[]:=by
   rw[filter_eq_nil_iff];intro j hj jx;have hj:j=2\/j=3\/j=4:=(by simpa using hj);exact(h2 0 j hj jx).1 rfl
  rw[e0,map_nil,nil_append];have e1:∀n,([2,3,4].filter (λk=>((rE nds' nv al').wr.getD (n+1) []).getD k false))=([2,3,4].filter (λk=>((rE nds nv al).wr.getD n []).getD k false)):=λn=>by
   apply filter_congr;intro j hj;have hj:j=2\/j=3\/j=4:=(by simpa using hj);rw[Bool.eq_iff_iff];exact⟨λh9=>by have:=(h2 (n+1) j hj h9).2;rw[Nat.add_sub_cancel]at this;exact this,h1 n j hj⟩
  congr 1;funext n;rw[e1 n,map_map];rfl
 have r:∀{s:Sr},s.fu=false->(CB s).al=Hl s.wr/\(CB s).vd=if Hl s.wr=[] then 0 else 1:=fun {s} h=>by
  unfold CB;rw[if_neg (by rw[h];simp)];exact⟨rfl,rfl⟩
 unfold ye;rw[(r hN.2).1,(r hN.2).2,(r hN'.2).1,(r hN'.2).2,key];refine⟨rfl,?_⟩;have:BU 1 (Hl (rE nds nv al).wr)=[]↔Hl (rE nds nv al).wr=[]:=by unfold BU;exact map_eq_nil_iff
 by_cases e:Hl (rE nds nv al).wr=[]
 .rw[if_pos e,if_pos (this.2 e)]
 .rw[if_neg e,if_neg (λh9=>e (this.1 h9))]
end
theorem X7{c:UInt8}(hc:mg c=false):∀(x r:List UInt8),(x++c::r).takeWhile mg=x.takeWhile mg
 |[],r=>by rw[nil_append,takeWhile_cons,hc];rfl
 |d::x,r=>by
  rw[cons_append,takeWhile_cons,takeWhile_cons];split
  .rw[X7 hc x r]
  .rfl
structure Brc(c:UInt8):Prop where
 l:mg c=false
 a:c≠62
 b:c≠61
 s:xh c.toNat=true
 w:¬ (c=32\/c=10)
 p:c≠45
 q:c≠33
theorem Nq:Brc 123:=⟨by decide,by decide,by decide,by decide,by decide,by decide,by decide⟩
theorem aeB:Brc 125:=⟨by decide,by decide,by decide,by decide,by decide,by decide,by decide⟩
theorem ahF{c:UInt8}(hl0:mg c=false)(ha0:c≠62)(tK:c≠61)(d:UInt8)(x r:List UInt8):aR (d::x++c::r)=aR (d::x):=by
 have h1:bF (d::x++c::r)=bF (d::x):=by unfold bF;rw[X7 hl0]
 have h2:((d::x++c::r).take 2=[45,62]\/(d::x++c::r).take 2=[33,61])↔((d::x).take 2=[45,62]\/(d::x).take 2=[33,61]):=by
  cases x with
  |nil =>
   simp only[cons_append,nil_append,take_succ_cons,take_zero,take_nil];constructor
   .rintro(h|h) <;> injection h with _ h <;> injection h with h _
    .exact absurd h ha0
    .exact absurd h tK
   .rintro(h|h) <;> injection h with _ h <;> cases h
  |cons y x=>simp
 unfold aR;rw[h1];by_cases hl:0<bF (d::x)
 .rw[if_pos hl,if_pos hl]
 .rw[if_neg hl,if_neg hl];by_cases h3:(d::x).take 2=[45,62]\/(d::x).take 2=[33,61]
  .rw[if_pos h3,if_pos (h2.2 h3)]
  .rw[if_neg h3,if_neg (λh=>h3 (h2.1 h))];rfl
theorem qh{c:UInt8}(hc:Brc c):∀(n:Nat) (x r:List UInt8),x.length<=n->je (x++c::r)=(je x).bind (λL=>(je r).map (L++[c]::·))
 |_,[],r,_=>by
  have:=Rj hc.l hc.p hc.q hc.s hc.w r;rw[nil_append,show c::r=[c]++r from rfl,this];rfl
 |0,_::_,_,h=>by simp at h
 |n+1,d::x,r,h=>by
  simp only[length_cons]at h;by_cases hb:d=32\/d=10
  .rw[cons_append,oG _ _ hb,oG _ _ hb];exact qh hc n x r (by omega)
  .have hw:=ahF hc.l hc.a hc.b d x r;by_cases h0:aR (d::x)=0
   .rw[cons_append]at hw ⊢;rw[rt d x hb h0,rt d (x++c::r) hb (by rw[hw];exact h0)];rfl
   .rw[cons_append]at hw ⊢;have m9:=qj (d::x);rw[lJ d x hb h0,lJ d (x++c::r) hb (by rw[hw];exact h0),hw];have e1:(d::(x++c::r)).drop (aR (d::x))=(d::x).drop (aR (d::x))++c::r:=by
     rw[<-cons_append,drop_append_of_le_length m9]
    have e2:(d::(x++c::r)).take (aR (d::x))=(d::x).take (aR (d::x)):=by
     rw[<-cons_append,take_append_of_le_length m9]
    rw[e1,e2,qh hc n _ r (by simp only[length_drop,length_cons];omega)];cases je ((d::x).drop (aR (d::x))) with
    |none=>rfl
    |some L=>cases je r <;> rfl
theorem oH:∀(n:Nat) (x:List UInt8) (L:List (List UInt8)),x.length<=n->je x=some L->∀w∈L,∀c∈w,c∈x
 |_,[],L,_,h,w,hw=>by
  rw[BW]at h;injection h with h;rw[<-h]at hw;simp at hw
 |0,_::_,_,h,_,_,_=>by simp at h
 |n+1,d::x,L,hl,h,w,hw=>by
  simp only[length_cons]at hl;by_cases hb:d=32\/d=10
  .rw[oG _ _ hb]at h;intro c hc;exact mem_cons_of_mem _ (oH n x L (by omega) h w hw c hc)
  .by_cases h0:aR (d::x)=0
   .rw[rt d x hb h0]at h;cases h
   .rw[lJ d x hb h0]at h;obtain⟨L',h1,rfl⟩:=Option.map_eq_some_iff.1 h;intro c hc;rcases mem_cons.1 hw with rfl|hw
    .exact mem_of_mem_take hc
    .exact mem_of_mem_drop (oH n _ L' (by simp only[length_drop,length_cons];omega) h1 w hw c hc)
theorem zb{α:Type}{z:α}:∀{a b a' b':List α},z ∉ a->z ∉ a'->a++z::b=a'++z::b'->a=a'/\b=b'
 |[],_,[],_,_,_,h=>by injection h with _ h;exact⟨rfl,h⟩
 |[],_,y::a',_,_,h2,h=>by injection h with h _;exact absurd (by rw[h];simp) h2
 |x::a,_,[],_,h1,_,h=>by injection h with h _;exact absurd (by rw[h];simp) h1
 |x::a,_,y::a',_,h1,h2,h=>by
  rw[cons_append,cons_append]at h;injection h with e h;obtain⟨g1,g2⟩:=zb (λhm=>h1 (by simp[hm])) (λhm=>h2 (by simp[hm])) h;exact⟨by rw[e,g1],g2⟩
theorem sJ{l:List UInt8}{L:List (List UInt8)}(h:je l=some L):qf l=L.map bA:=by unfold qf;rw[h];rfl
theorem Fb{L:List (List UInt8)}{x:List UInt8}:bA x∈L.map bA↔x∈L:=by
 constructor
 .intro h;obtain⟨y,hy,e⟩:=mem_map.1 h;rw[<-Nh e];exact hy
 .exact λh=>mem_map.2 ⟨x,h,rfl⟩
structure adz(l A B W:List UInt8)(f b:List ByteArray):Prop where
 e:l=A++123::(B++125::W)
 a:123 ∉ A
 w:125 ∉ W
 sA:(je A).map (·.map bA)=some (dS::f)
 sB:(je B).map (·.map bA)=some b
theorem DA{α:Type}(p:α->Bool):∀(l:List α),(∃x∈l,p x=true)->∃a z b,l=a++z::b/\p z=true/\∀x∈b,p x=false
 |[],h=>by obtain⟨x,hx,-⟩:=h;simp at hx
 |y::l,h=>by
  by_cases hl:∃x∈l,p x=true
  .obtain⟨a,z,b,h1,h2,h3⟩:=DA p l hl;exact⟨y::a,z,b,by rw[h1];rfl,h2,h3⟩
  .obtain⟨x,hx,hp⟩:=h;rcases mem_cons.1 hx with rfl|hx
   .exact⟨[],x,l,rfl,hp,λz hz=>by
     cases hc:p z with
     |false=>rfl
     |true=>exact absurd ⟨z,hz,hc⟩ hl⟩
   .exact absurd ⟨x,hx,hp⟩ hl
theorem abG{l:List UInt8}(h:mQ l=0):∃A B W f b k,adz l A B W f b/\oL f/\iD b k/\qf l=bN f b:=by
 obtain⟨f,b,k,hf,hb,hw⟩:=abH h;obtain⟨-,hs,-⟩:=ro h;obtain⟨L,hL⟩:=Option.ne_none_iff_exists'.1 hs;have hLw:L.map bA=bN f b:=by rw[<-sJ hL];exact hw
 have hm:([123]:List UInt8)∈L:=by
  rw[<-Fb,hLw];unfold bN;simp[show bA [123]=eg from rfl]
 have hc:(123:UInt8)∈l:=oH _ l L (zq4 _) hL _ hm 123 (by simp);obtain⟨A,R,hA,hl⟩:∃A R,123 ∉ A/\l=A++123::R:=by
  obtain⟨A,R,h1,h2⟩:=mem_iff_append.1 hc |> λ⟨s,t,e⟩=>(⟨s,t,e,trivial⟩:∃A R,l=A++123::R/\True);clear h2;have key:∀l:List UInt8,123∈l->∃A R,123 ∉ A/\l=A++123::R:=by
   intro l;induction l with
   |nil=>intro h;simp at h
   |cons x l ih =>
    intro h;by_cases e:x=123
    .exact⟨[],l,by simp,by rw[e];rfl⟩
    .rcases mem_cons.1 h with h|h
     .exact absurd h.symm e
     .obtain⟨A,R,h1,h2⟩:=ih h;exact⟨x::A,R,by simp[h1,Ne.symm e],by rw[h2];rfl⟩
  exact key l hc
 have Dx:=qh Nq A.length A R (zq4 _);rw[<-hl,hL]at Dx;cases hsA:je A with
 |none=>rw[hsA]at Dx;cases Dx
 |some LA =>
  rw[hsA]at Dx;cases hsR:je R with
  |none=>rw[hsR]at Dx;cases Dx
  |some LR =>
   rw[hsR]at Dx;have hLe:L=LA++[123]::LR:=(by injection Dx);have hLA:eg ∉ LA.map bA:=λhh=>by
    have:([123]:List UInt8)∈LA:=Fb.1 hh;exact hA (oH _ A LA (zq4 _) hsA _ this 123 (by simp))
   have jx:eg ∉ dS::f:=λhh=>by
    rcases mem_cons.1 hh with hh|hh
    .exact absurd hh (aq (by simp[dS,eg]))
    .exact aeL hf _ hh rfl
   have hcut:LA.map bA++eg::LR.map bA=(dS::f)++eg::(b++[gC]):=by
    have:=hLw;rw[hLe,map_append,map_cons]at this;exact this
   obtain⟨c1,c2⟩:=zb hLA jx hcut;have th:([125]:List UInt8)∈LR:=(by rw[<-Fb,c2];simp[show bA [125]=gC from rfl]);have vS:(125:UInt8)∈R:=oH _ R LR (zq4 _) hsR _ th 125 (by simp);obtain⟨B,z,W,hR,hz,hW⟩:=DA (λc:UInt8=>c==125) R ⟨125,vS,by simp⟩;have hz:z=125:=(by simpa using hz);subst hz;have hW:125 ∉ W:=λhh=>by have:=hW _ hh;simp at this
   have wg:=qh aeB B.length B W (zq4 _);rw[<-hR,hsR]at wg;cases hsB:je B with
   |none=>rw[hsB]at wg;cases wg
   |some LB =>
    rw[hsB]at wg;cases hsW:je W with
    |none=>rw[hsW]at wg;cases wg
    |some LW =>
     rw[hsW]at wg;have hLR:LR=LB++[125]::LW:=(by injection wg);have hLW:LW=[]:=by
      rcases eq_nil_or_concat LW with h0|⟨L1,y,h0⟩
      .exact h0
      .exfalso;rw[concat_eq_append]at h0;have e:(LB.map bA++gC::L1.map bA)++[bA y]=b++[gC]:=(by rw[<-c2,hLR,h0];simp[show bA [125]=gC from rfl]);have:=(append_inj' e rfl).2;injection this with this;have hy:y=[125]:=Nh this;exact hW (oH _ W LW (zq4 _) hsW y (by rw[h0];simp) 125 (by rw[hy];simp))
     have xQ:LB.map bA=b:=by
      have e:LB.map bA++[gC]=b++[gC]:=(by rw[<-c2,hLR,hLW];simp[show bA [125]=gC from rfl]);exact(append_inj' e rfl).1
     refine⟨A,B,W,f,b,k,⟨by rw[hl,hR],hA,hW,?_,?_⟩,hf,hb,hw⟩
     .rw[hsA,Option.map_some,c1]
     .rw[hsB,Option.map_some,xQ]
def skI:pF:=⟨aD,em,em,em,0,false⟩
theorem abX:rsI [aD]=some skI:=by show(if aX aD aD=true then _ else _)=_;rw[if_pos (aT _)];rfl
theorem Nr:Wv [aD,fF] [skI]:=by
 intro ws f n q s hf hn hq mA;simp only[length_cons,length_nil]at hf hn;cases n with
 |zero=>omega
 |succ n =>
  obtain⟨nd,i',⟨l1,l2,l3,l4⟩,lS,hS⟩:=Ry (p:=[aD]) (q:=q) lj.skip mA;rw[abX]at lS;injection lS with lS;subst lS;have Ga:Rd ws s (aD::(fF::q)):=mA;have ec:kA (cM ws f) ws s=rK ws s:=by
   unfold kA;rw[cB pz Ga,cB jT Ga,show aX aD md=false from bm (Rl lj.skip aD (by simp)),show aX aD bP=false from bm (Ro lj.skip aD (by simp))];rfl
  refine⟨n,rK ws s,?_,by simp only[length_cons,length_nil];omega,l1,l2,[nd],l3,λvs hv=>⟨zq0 ⟨hS.up hv,l4⟩,trivial⟩⟩;rw[vD Ga (Rn lj.skip aD (by simp)),ec]
section
variable {f b:List ByteArray} {k:Nat}
theorem LP:(Lv [] false (bN f (aD::fF::b))).1=(Lv [] false (bN f b)).1/\Qs [] (bN f (aD::fF::b))=Qs [] (bN f b):=by
 have EH:aX eg a6=false:=bm (aq (by simp[eg,a6]));have hse:aX fF a6=false:=bm (aq (by simp[fF,a6]));have e1:bN f b=(dS::(f++[eg]))++(b++[gC]):=by unfold bN;simp
 have e2:bN f (aD::fF::b)=(dS::(f++[eg]))++(aD::fF::(b++[gC])):=by unfold bN;simp
 have hA:(Lv [] false (dS::(f++[eg]))).2=false:=by
  rw[show dS::(f++[eg])=(dS::f)++[eg] by simp,re];exact EH
 have ad:∀(z:List ByteArray) (x:ByteArray),eE false z x=z:=λz x=>by unfold eE;rw[if_neg (by simp)]
 have l1:aK aD=false:=rfl;have l2:aK fF=false:=rfl;have u1:lg aD=false:=rfl;have u2:lg fF=false:=rfl;rw[e1,e2,re,re (dS::(f++[eg])),hA,uB,uB (dS::(f++[eg]))];generalize (Lv [] false (dS::(f++[eg]))).1=z;generalize Qs [] (dS::(f++[eg]))=y;constructor
 .show(Lv (eE (aK fF&&!aX aD a6) (eE (aK aD&&!false) z aD) fF) (aX fF a6) (b++[gC])).1=_;rw[l1,l2,hse,Bool.false_and,Bool.false_and,ad,ad]
 .show Qs (eE (lg fF) (eE (lg aD) y aD) fF) (b++[gC])=_;rw[u1,u2,ad,ad]
theorem ahh{vs:List UInt8}(hn:vs.Nodup){j:Nat}{a b:Nd}{i:pF}(h:NI vs j a i)(h':NI vs (j+1) b (k9 1 i)):b.op=a.op/\(∀f,cn b f=cn a f)/\b.nx=a.nx+1/\(a.op=7\/a.op=8\/a.op=9->b.ot=a.ot+1):=by
 rcases h with⟨a1,a2⟩|⟨a1,a2,a3⟩|⟨a1,a2,a3⟩ <;> rcases h' with⟨b1,b2⟩|⟨b1,b2,b3⟩|⟨b1,b2,b3⟩
 .obtain⟨h1,h2,h3⟩:=ahy hn a1 (show SI vs b i from b1);exact⟨h1,h2,by rw[a2,b2],λht=>absurd ht h3⟩
 .exact(JH a1 (zq0 b1.1)).elim
 .exact(JH a1 (zq1 b1)).elim
 .exact(JH (show SI vs b i from b1) (zq0 a1.1)).elim
 .obtain⟨h1,h2⟩:=ahA hn a1 (show TI vs b i from b1);exact⟨h1,h2,by rw[a2,b2],λ_=>by rw[a3,b3];rfl⟩
 .exact(dne a1.1 b1 (by simp[ry,ZA])).elim
 .exact(JH (show SI vs b i from b1) (zq1 a1)).elim
 .exact(dne (show i.op=ry from b1.1) a1 (by simp[ry,ZA])).elim
 .exact⟨by rw[a2,b2],vH (by rw[a2,b2]) (λ_ _ _ h=>absurd a2 h) (λho=>by omega) (λho=>by omega),by rw[a3,b3];rfl,λht=>by omega⟩
theorem Vv{vs:List UInt8}{j:Nat}{a:Nd}(h:NI vs j a skI):a.op=6/\a.nx=j+1:=by
 have hd:∀{x:ByteArray},aD=x->aD.data.toList=x.data.toList:=λe=>by rw[<-e]
 rcases h with⟨h1,h2⟩|⟨h1,-⟩|⟨h1,-⟩
 .rcases h1 with⟨a1,-⟩|⟨a1,-⟩|⟨a1,-⟩|⟨a1,-⟩|⟨a1,-⟩|⟨a1,-⟩|⟨-,a2⟩
  .have:=hd a1;simp[aD,cD]at this
  .have:=hd a1;simp[aD,yX]at this
  .have:=hd a1;simp[aD,lD]at this
  .have:=hd a1;simp[aD,zx]at this
  .have:=hd a1;simp[aD,sM]at this
  .have:=hd a1;simp[aD,fM]at this
  .exact⟨a2,h2⟩
 .have:=hd h1.1;simp[aD,ry]at this
 .have:=hd h1;simp[aD,ZA]at this
theorem zP(hf:oL f)(hb:iD b k):yK (fA (bN f b) bu).nodes (fA (bN f (aD::fF::b)) bu).nodes k/\(fA (bN f (aD::fF::b)) bu).vars=(fA (bN f b) bu).vars/\(fA (bN f (aD::fF::b)) bu).hid=(fA (bN f b) bu).hid/\(fA (bN f (aD::fF::b)) bu).failed=false:=by
 obtain⟨T,hT,hB⟩:=TB hb;have hB:Wv b T:=hB;have C3:Wv (aD::fF::b) (skI::T.map (k9 1)):=Nr.app hB (TA hb);obtain⟨N,n1,n2,n3⟩:=zC hf hB (ws:=bN f b) rfl;obtain⟨M,m1,m2,m3⟩:=zC hf C3 (ws:=bN f (aD::fF::b)) rfl;obtain⟨v1,u1⟩:=DZ n3;obtain⟨v2,u2⟩:=DZ m3;obtain⟨s1,s2⟩:=LP (f:=f) (b:=b);have hV:(fA (bN f (aD::fF::b)) bu).vars=(fA (bN f b) bu).vars:=uC (v2.trans (s1.trans v1.symm));have hH:(fA (bN f (aD::fF::b)) bu).hid=(fA (bN f b) bu).hid:=uC (u2.trans (s2.trans u1.symm));have dG:(fA (bN f b) bu).vars.Nodup:=(aaY (ws:=bN f b)).nv;rw[hV]at m2;obtain⟨V,hVe⟩:∃V,V=(fA (bN f b) bu).vars:=⟨_,rfl⟩;rw[<-hVe]at n2 m2 dG;have e0:∀l:List pF,l.map (k9 0)=l:=λl=>by
  conv=>rhs;rw[<-map_id l]
  apply map_congr_left;intro i _;rfl
 rw[e0]at n2 m2;have Mg:N.length=k:=by rw[n2.len,hT]
 have Su:M.length=k+1:=by rw[m2.len];simp[hT]
 refine⟨⟨by rw[n1];simp[Mg],by rw[m1];simp[Su],?_,λi hi=>?_,?_,?_⟩,hV,hH,m3⟩
 .rw[m1,r9 (by omega)];have:=m2.at (j:=0) (by simp);rw[Nat.zero_add]at this;exact Vv this
 .rw[n1,m1,r9 (by omega),r9 (by omega)];have h1:=n2.at (j:=i) (by omega);have h2:=m2.at (j:=i+1) (by simp;omega);rw[Nat.zero_add]at h1 h2;rw[getElem_cons_succ,getElem_map]at h2;exact ahh dG h1 h2
 .rw[n1,<-Mg,zh];rfl
 .rw[m1,<-Su,zh];rfl
theorem Rp(hf:oL f)(hb:iD b k)(hA:SW (bN f b))(Ug:SW (bN f (aD::fF::b))):(fA (bN f (aD::fF::b)) bu).nodes.length=(fA (bN f b) bu).nodes.length+1/\((vu (bN f b)).vd≠2->(vu (bN f (aD::fF::b))).vd≠2->(vu (bN f (aD::fF::b))).al=BU 1 (vu (bN f b)).al/\(vu (bN f (aD::fF::b))).vd=(vu (bN f b)).vd):=by
 obtain⟨h1,h2,-,-⟩:=zP hf hb;refine⟨by rw[h1.l,h1.l'],λhv AO=>?_⟩;have alV:bX (mD (bN f (aD::fF::b)) bu)=bX (mD (bN f b) bu):=QO hf;have hN:Nf (rE (fA (bN f b) bu).nodes (fA (bN f b) bu).vars.length (mD (bN f b) bu)):=⟨hA.ok,by
  cases h:(rE (fA (bN f b) bu).nodes (fA (bN f b) bu).vars.length (mD (bN f b) bu)).fu with
  |false=>rfl
  |true=>exact absurd (by unfold vu ye CB;rw[if_pos h]) hv⟩
 have C5:Nf (rE (fA (bN f (aD::fF::b)) bu).nodes (fA (bN f (aD::fF::b)) bu).vars.length (mD (bN f (aD::fF::b)) bu)):=⟨Ug.ok,by
  cases h:(rE (fA (bN f (aD::fF::b)) bu).nodes (fA (bN f (aD::fF::b)) bu).vars.length (mD (bN f (aD::fF::b)) bu)).fu with
  |false=>rfl
  |true=>exact absurd (by unfold vu ye CB;rw[if_pos h]) AO⟩
 rw[h2]at C5;have:=abY h1 alV hA.n Ug.n hA.a Ug.a hN C5;unfold vu;rw[h2];exact this
end
theorem aeC:Brc 59:=⟨by decide,by decide,by decide,by decide,by decide,by decide,by decide⟩
def JI:List UInt8:=[115,107,105,112,59]
theorem TK{l A B W:List UInt8}{f b:List ByteArray}{k:Nat}(h:adz l A B W f b)(hf:oL f)(hb:iD b k)(h0:mQ l=0)(hl:qf l=bN f b):
  qf (A++123::(JI++(B++125::W)))=bN f (aD::fF::b)/\((A++123::(JI++(B++125::W))).length<=240->mQ (A++123::(JI++(B++125::W)))=0):=by
 obtain⟨LA,hA,eA⟩:=Option.map_eq_some_iff.1 h.sA;obtain⟨-,hs,-,k4,k5⟩:=ro h0;obtain⟨L,hL⟩:=Option.ne_none_iff_exists'.1 hs;have hLw:L.map bA=bN f b:=by rw[<-sJ hL];exact hl
 have Dx:=qh Nq A.length A (B++125::W) (zq4 _);rw[<-h.e,hL,hA]at Dx;obtain⟨LR,hR,hLR⟩:∃LR,je (B++125::W)=some LR/\L=LA++[123]::LR:=by
  cases hR:je (B++125::W) with
  |none=>rw[hR]at Dx;cases Dx
  |some LR=>rw[hR]at Dx;exact⟨LR,rfl,by injection Dx⟩
 have hRw:LR.map bA=b++[gC]:=by
  have h1:LA.map bA++eg::LR.map bA=(dS::f)++eg::(b++[gC]):=by
   have h2:=hLw;rw[hLR,map_append,map_cons]at h2;exact h2
  rw[eA]at h1;have h3:=append_cancel_left h1;injection h3
 have SL:aR [115,107,105,112]=4:=by decide
 have SK:je [115,107,105,112]=some [[115,107,105,112]]:=by
  rw[lJ 115 [107,105,112] (by decide) (by rw[SL];decide),SL];show(je []).map _=_;rw[BW];rfl
 have wg:je (A++123::(JI++(B++125::W)))=some (LA++[123]::([115,107,105,112]::[59]::LR)):=by
  rw[qh Nq A.length A _ (zq4 _),hA];have h1:=qh aeC 4 [115,107,105,112] (B++125::W) (by simp);rw[SK,hR]at h1;have h2:JI++(B++125::W)=[115,107,105,112]++59::(B++125::W):=rfl;rw[h2,h1];rfl
 have hw:qf (A++123::(JI++(B++125::W)))=bN f (aD::fF::b):=by
  rw[sJ wg,map_append,map_cons,map_cons,map_cons,eA,hRw];rfl
 refine⟨hw,λm9=>?_⟩;obtain⟨-,hV,hH,m3⟩:=zP hf hb;have hS:uL l=fA (bN f b) bu:=by unfold uL;rw[hl]
 have bZ:uL (A++123::(JI++(B++125::W)))=fA (bN f (aD::fF::b)) bu:=by unfold uL;rw[hw]
 rw[hS]at k4 k5;exact Q1 (by omega) (by rw[wg];simp) (by rw[bZ];exact m3) (by rw[bZ,hV,hH];omega)
