import Derived.Test.YtciihepbeacppaaGreatM33
import Derived.Test.YtciihepbeacppaaGreatM31
set_option maxRecDepth 100000
set_option maxHeartbeats 0
namespace Go.Proofs.YtciihepbeacppaaGreat
open Tryz Go.RowKit List World Below
set_option linter.unusedVariables false
section
variable {vs:List UInt8} {f:CF}
theorem Jh{l:List UInt8}(h:l.Nodup){i j:Nat}(hi:i<l.length)(hj:j<l.length)(e:l.getD i 0=l.getD j 0):i=j:=by
 have h1:=Jq h hi;have h2:=Jq h hj;rw[e]at h1;omega
theorem Ji{l:List UInt8}{i:Nat}(hi:i<l.length):l.getD i 0∈l:=by
 rw[getD_eq_getElem?_getD,getElem?_eq_getElem hi];exact getElem_mem hi
end
theorem Nc{x y:List UInt8}(h:bA x=bA y):x=y:=by
 have:(bA x).data.toList=(bA y).data.toList:=by rw[h]
 exact this
theorem JR{s:PS}(hs:tW s){k i k' i':Nat}(h:SV s.vars s.hid k i)(h':SV s.vars s.hid k' i')(e:LP s.vars s.hid k i=LP s.vars s.hid k' i'):xt k i=xt k' i':=by
 have one_inj:∀{c d:UInt8},dP c=dP d->c=d:=fun {c d} h=>by
  have:(dP c).data.toList=(dP d).data.toList:=by rw[h]
  injection this
 have v1:∀{i:Nat},i<s.vars.length->aK (dP (s.vars.getD i 0))=true:=λhi=>hs.lv _ (Ji hi);have v2:∀{i:Nat},i<s.hid.length->k8 (dP (s.hid.getD i 0))=true:=λhi=>hs.lh _ (Ji hi);have n1:∀{c:UInt8},dP c≠cC:=fun {c} h=>by
  have:(dP c).data.toList=cC.data.toList:=by rw[h]
  simp[dP,cC]at this
 have e1:∀{k i:Nat},k<=2->k=0\/k=1\/k=2:=λh=>by omega
 rcases e1 (i:=0) h.1 with rfl|rfl|rfl <;> rcases e1 (i:=0) h'.1 with rfl|rfl|rfl
 .rfl
 .exact absurd e.symm n1
 .exact absurd e.symm n1
 .exact absurd e n1
 .have:=Jh hs.nv (h.2.1 rfl) (h'.2.1 rfl) (one_inj e);rw[this]
 .have h3:=v1 (h.2.1 rfl);have e:dP (s.vars.getD i 0)=dP (s.hid.getD i' 0):=e;rw[e]at h3;have:=Bg _ h3;rw[v2 (h'.2.2 rfl)]at this;cases this
 .exact absurd e n1
 .have h3:=v1 (h'.2.1 rfl);have e:dP (s.hid.getD i 0)=dP (s.vars.getD i' 0):=e;rw[<-e]at h3;have:=Bg _ h3;rw[v2 (h.2.2 rfl)]at this;cases this
 .have:=Jh hs.nh (h.2.2 rfl) (h'.2.2 rfl) (one_inj e);rw[this]
theorem Vb{k k':Nat}(h:k<=4)(h0:k≠0)(h':k'<=4)(h0':k'≠0)(e:XQ k=XQ k'):k=k':=by
 have hk:k=1\/k=2\/k=3\/k=4:=by omega
 have ED:k'=1\/k'=2\/k'=3\/k'=4:=by omega
 have e2:(XQ k).data.toList=(XQ k').data.toList:=by rw[e]
 rcases hk with rfl|rfl|rfl|rfl <;> rcases ED with rfl|rfl|rfl|rfl <;> first|rfl|(simp[XQ,bS,kU,LQ,EK]at e2)
theorem Vu{s:PS}(hs:tW s){a b:ci}(ha:xW s.vars s.hid a)(hb:xW s.vars s.hid b)(a0:a.k≠0)(b0:b.k≠0)(e:nmA s.vars s.hid a=nmA s.vars s.hid b):tm a=tm b:=by
 unfold nmA at e;injection e with e1 e2 e3;unfold tm;rw[Vb ha.1 a0 hb.1 b0 e1,JR hs ha.2.1 hb.2.1 e2,JR hs ha.2.2 hb.2.2 e3]
theorem wu{α β γ:Type}{g:α->β}{h:α->γ}{P:α->Prop}(hP:∀a b,P a->P b->g a=g b->h a=h b):∀(l l':List α),(∀a∈l,P a)->(∀a∈l',P a)->l.map g=l'.map g->l.map h=l'.map h
 |[],[],_,_,_=>rfl
 |[],_::_,_,_,e=>by simp at e
 |_::_,[],_,_,e=>by simp at e
 |a::l,b::l',h1,h2,e=>by
  rw[map_cons,map_cons]at e ⊢;injection e with e1 e2;rw[hP a b (h1 a (by simp)) (h2 b (by simp)) e1,wu hP l l' (λx hx=>h1 x (by simp[hx])) (λx hx=>h2 x (by simp[hx])) e2]
def Vn(c:List Nat)(p:Pr):List Nat:=if p.k=1 then c.map (λx=>if x=c.getD p.r 0 then c.getD p.l 0 else x) else c
def prU(c:List Nat)(p:Pr):Pr:=⟨p.k,c.getD p.l 0,c.getD p.r 0⟩
def cfT(L:List Pr):CF:=⟨(L.foldl Vn (range 13)).take 5,(L.filter (λp=>p.k==2)).map (prU (L.foldl Vn (range 13))),(L.filter (λp=>p.k==3||p.k==4)).map (prU (L.foldl Vn (range 13)))⟩
theorem WS(al:List ci):bW al=cfT ((al.filter (λa=>a.k != 0)).map tm):=by
 have hm:∀(l:List ci) (c:List Nat),l.foldl oZ c=((l.filter (λa=>a.k != 0)).map tm).foldl Vn c:=by
  intro l;induction l with
  |nil=>intro c;rfl
  |cons a l ih =>
   intro c;rw[foldl_cons,ih];by_cases h0:a.k=0
   .have e1:oZ c a=c:=(by unfold oZ;rw[if_neg (by omega)]);rw[e1,filter_cons_of_neg (by simp[h0])]
   .rw[filter_cons_of_pos (by simp[h0]),map_cons,foldl_cons];rfl
 have hf:∀(q:Nat->Bool),q 0=false->∀(m:List Nat),(al.filter (λa=>q a.k)).map (jm m)=(((al.filter (λa=>a.k != 0)).map tm).filter (λp=>q p.k)).map (prU m):=by
  intro q hq m;rw[filter_map,filter_filter,map_map];have:al.filter (λa=>q a.k)=al.filter (λa=>((λp:Pr=>q p.k) ∘ tm) a&&(a.k != 0)):=by
   apply filter_congr;intro a _;show q a.k=(q a.k&&(a.k != 0));by_cases h0:a.k=0
   .rw[h0,hq];rfl
   .simp[h0]
  rw[this];rfl
 unfold bW cfT nz;rw[<-hm al (range 13),hf (λk=>k==2) rfl,hf (λk=>k==3||k==4) rfl]
def GL(s s':PS):Prop:=po s s'/\(tW s->tW s')
theorem GL.refl(s:PS):GL s s:=⟨po.refl s,id⟩
theorem GL.trans{a b c:PS}(h:GL a b)(k:GL b c):GL a c:=⟨h.1.trans k.1,λx=>k.2 (h.2 x)⟩
theorem GL.same{s s':PS}(hv:s'.vars=s.vars)(hh:s'.hid=s.hid):GL s s':=⟨⟨by rw[hv];exact prefix_refl _,by rw[hh];exact prefix_refl _⟩,λh=>⟨by rw[hv];exact h.nv,by rw[hh];exact h.nh,by rw[hv];exact h.lv,by rw[hh];exact h.lh⟩⟩
section
variable {ws:List ByteArray}
theorem mu(k:ByteArray)(s:PS):GL s (aF ws k s):=⟨pQ ws k s,pZ⟩
theorem Ir(s:PS):GL s (bD ws s):=⟨OC ws s,Qg⟩
theorem Ax(s:PS):GL s (b9 ws s):=⟨It ws s,Jc⟩
theorem pP(s:PS):GL s s.adv:=GL.same rfl rfl
theorem Fy(nd:Nd)(s:PS):GL s (cg nd s):=GL.same rfl rfl
theorem Zx(s:PS):GL s (yT ws s):=by unfold yT;split;exact pP s;exact mu _ s
theorem aeP(s:PS):GL s (tE ws s):=by
 unfold tE;split
 .exact pP s
 .exact((Ir s).trans (Zx _)).trans (Ax _)
theorem Xb(s:PS):GL s (gz ws s):=by
 unfold gz Mz;exact(((mu _ s).trans (aeP _)).trans (mu _ _)).trans (Fy _ _)
theorem aeM(s:PS):GL s (oP ws s):=by
 unfold oP;split
 .exact pP s
 .split
  .exact((Ax s).trans (pP _)).trans (mu _ _)
  .exact Ax s
theorem aeT(s:PS):GL s (iu ws s):=by
 unfold iu;split
 .exact pP s
 .split
  .exact(pP s).trans (Ir _)
  .split
   .unfold zK;exact((((Ir s).trans (pP _)).trans (mu _ _)).trans (mu _ _)).trans (Ax _)
   .exact((Ir s).trans (mu _ _)).trans (aeM _)
theorem aeS(s:PS):GL s (rJ ws s):=by
 unfold rJ;exact((aeT s).trans (mu _ _)).trans (Fy _ _)
theorem aeN{blk:PS->PS}(hb:∀s,GL s (blk s))(s:PS):GL s (pN blk ws s):=by
 have h1:GL s (cI blk ws s):=by unfold cI;exact((mu _ s).trans (Xb _)).trans (hb _)
 unfold pN;split
 .refine h1.trans (GL.trans (b:=lP s.nodes.length (cI blk ws s)) (GL.same rfl rfl) ((hb _).trans (GL.same rfl rfl)))
 .exact h1.trans (GL.same rfl rfl)
theorem aeQ{blk:PS->PS}(hb:∀s,GL s (blk s))(s:PS):GL s (xV blk ws s):=by
 have h1:GL s (ny blk ws s):=by unfold ny;exact((mu _ s).trans (Xb _)).trans (hb _)
 exact h1.trans (GL.same rfl rfl)
theorem aeO{blk:PS->PS}(hb:∀s,GL s (blk s))(s:PS):GL s (kw blk ws s):=by
 unfold kw;split
 .exact aeN hb s
 .split
  .exact aeQ hb s
  .exact aeS s
theorem OA{c:PS->PS}(hc:∀s,GL s (c s)):∀n s,GL s (jg c ws n s)
 |0,s=>GL.refl s
 |n+1,s=>by
  show GL s (if _ then s else jg c ws n (c s));split
  .exact GL.refl s
  .exact(hc s).trans (OA hc n _)
theorem Xa:∀f s,GL s (cL ws f s)
 |0,s=>GL.refl s
 |f+1,s=>((mu _ s).trans (OA (aeO (Xa f)) _ _)).trans (mu _ _)
theorem aeR(s:PS):GL (rG ws (aF ws fO s)) (fy ws s):=by
 have h1:GL (rG ws (aF ws fO s)) (EO ws s):=(Xa _ _).trans (Fy _ _);unfold fy;split
 .exact h1
 .exact h1.trans (GL.same rfl rfl)
theorem Jb:tW bt:=⟨nodup_nil,nodup_nil,λc hc=>(by cases hc),λc hc=>(by cases hc)⟩
theorem aaW:tW (fy ws bt):=(aeR bt).2 (Qf (pZ Jb))
end
def Wt(b:List ByteArray)(C:List pE):Prop:=∀(ws:List ByteArray) (f n:Nat) (q:List ByteArray) (s:PS),b.length<f->b.length<n->gq rE q=false->Rd ws s (b++q) ->
  ∃n' s',jg (kw (cL ws f) ws) ws n s=jg (kw (cL ws f) ws) ws n' s'/\n<=n'+b.length/\L7 ws s s' q (C.map (k7 s.nodes.length))
theorem Wt.app{b b':List ByteArray}{C C':List pE}(h:Wt b C)(h':Wt b' C')(he:∀q,gq rE q=false->gq rE (b'++q)=false):Wt (b++b') (C++C'.map (k7 C.length)):=by
 intro ws f n q s hf hn hq hr;rw[length_append]at hf hn;rw[append_assoc]at hr;obtain⟨n1,s1,e1,l1,L1⟩:=h ws f n (b'++q) s (by omega) (by omega) (he q hq) hr;obtain⟨n2,s2,e2,l2,L2⟩:=h' ws f n1 q s1 (by omega) (by omega) hq L1.1;refine⟨n2,s2,e1.trans e2,by rw[length_append];omega,?_⟩;have:=L1.trans L2;rw[L1.len,length_map]at this;rw[map_append,jp,Nat.add_comm C.length];exact this
theorem Q0{ws f q:List ByteArray}{s:PS}(hf:oK f)(hq:gq bJ q=false)(h:Rd ws s (f++q))(hl:f.length<=ws.length+1):Rd ws (rG ws s) q:=by
 have h1:=(Bz (ws:=ws)).ok s _ h;rw[Av hf hl hq]at h1;exact h1
theorem Bd(r:List ByteArray):gq bJ (ee::r)=false:=bj (aq (by simp[ee,bJ]))
theorem zz{f b:List ByteArray}{C:List pE}(hf:oK f)(hB:Wt b C){ws:List ByteArray}(e:ws=dR::(f++ee::(b++[gB]))):
  ∃N,(fy ws bt).nodes=N++[{ jT with nx:=N.length+1 }]/\Er (fy ws bt).vars 0 N (C.map (k7 0))/\(fy ws bt).failed=false:=by
 have hl:ws.length=f.length+b.length+3:=by rw[e];simp only[length_cons,length_append,length_nil];omega
 have r0:Rd ws bt (fO::(f++ee::(b++[gB]))):=⟨rfl,e,zq5 _⟩;have a1:=ej Gg r0;have r2:=Q0 hf (Bd _) a1.rd (by omega);have a3:=ej (k:=mB) zp r2;have n3:(aF ws mB (rG ws (aF ws fO bt))).nodes=[]:=by rw[a3.nd,zb,a1.nd];rfl
 obtain⟨n',s',e1,l1,r4,IJ,N,hN,hNI⟩:=hB ws ws.length (ws.length+2) [gB] _ (by omega) (by omega) DZ a3.rd;obtain⟨n2,rfl⟩:∃n2,n'=n2+1:=⟨n'-1,by omega⟩;rw[vA r4]at e1;have a5:=ej (k:=k6) qV r4;rw[n3]at hN hNI;rw[nil_append]at hN;have hT:EO ws bt=cg jT (aF ws k6 s'):=by
  show cg jT (aF ws k6 (jg (kw (cL ws ws.length) ws) ws (ws.length+2) (aF ws mB (rG ws (aF ws fO bt)))))=_;rw[e1]
 have hp:(EO ws bt).pos=ws.length:=by
  rw[hT];have h5:=a5.rd;have h6:=congrArg List.length h5.2.1;rw[length_drop,length_nil]at h6;have h7:=h5.2.2;show(aF ws k6 _).pos=ws.length;omega
 have hS:fy ws bt=EO ws bt:=if_pos hp;rw[hS,hT];refine⟨N,?_,hNI _ a5.vs,a5.rd.1⟩;show(aF ws k6 s').nodes++[{ jT with nx:=(aF ws k6 s').nodes.length+1 }]=_;rw[a5.nd,hN]
theorem abF{l:List UInt8}(h:mP l=0):∃f b k,oK f/\iB b k/\qe l=dR::(f++ee::(b++[gB])):=by
 obtain⟨-,-,hf,-,-⟩:=ro h;apply Classical.byContradiction;intro hc;have:(fy (qe l) bt).failed=true:=VN (λk hk=>by
  obtain⟨j,⟨f,b,h1,h2,h3⟩,-⟩:=QL hk;exact hc ⟨f,b,j,h1,h2,h3⟩)
 have hf:(fy (qe l) bt).failed=false:=hf;rw[hf]at this;cases this
def Ls(z:List ByteArray)(d:Bool):List ByteArray->List ByteArray × Bool
 |[]=>(z,d)
 |x::r=>Ls (eC (aK x&&!d) z x) (aX x a6) r
def Qq(z:List ByteArray):List ByteArray->List ByteArray
 |[]=>z
 |x::r=>Qq (eC (k8 x) z x) r
theorem re:∀(a b:List ByteArray) (z:List ByteArray) (d:Bool),Ls z d (a++b)=Ls (Ls z d a).1 (Ls z d a).2 b
 |[],_,_,_=>rfl
 |x::a,b,z,d=>re a b _ _
theorem uy:∀(a b:List ByteArray) (z:List ByteArray),Qq z (a++b)=Qq (Qq z a) b
 |[],_,_=>rfl
 |x::a,b,z=>uy a b _
theorem Qs(l:List ByteArray):∀k,k<=l.length->Ls [] false (l.take k)=(SQ l k,aeE l k)/\Qq [] (l.take k)=SP l k
 |0,_=>⟨rfl,rfl⟩
 |k+1,hk=>by
  obtain⟨h1,h2⟩:=Qs l k (by omega);have hg:l[k]?.getD em=l[k]:=by rw[getElem?_eq_getElem (by omega)];rfl
  rw[take_succ_eq_append_getElem (by omega),re,uy,h1,h2];refine⟨?_,?_⟩
  .show(eC (aK l[k]&&!aeE l k) (SQ l k) l[k],aX l[k] a6)=(eC (aK (l[k]?.getD em)&&!aeE l k) (SQ l k) (l[k]?.getD em),aX (l[k]?.getD em) a6);rw[hg]
  .show eC (k8 l[k]) (SP l k) l[k]=eC (k8 (l[k]?.getD em)) (SP l k) (l[k]?.getD em);rw[hg]
theorem DX{ws:List ByteArray}(hf:(fy ws bt).failed=false):(fy ws bt).vars.map dP=(Ls [] false ws).1/\(fy ws bt).hid.map dP=Qq [] ws:=by
 have hp:(fy ws bt).pos=ws.length:=by
  unfold fy at hf ⊢;by_cases hp:(EO ws bt).pos=ws.length
  .rw[if_pos hp];exact hp
  .rw[if_neg hp]at hf;cases hf
 have hi:=U6 (ws:=ws) bt (IP _) hf;rw[hp]at hi;obtain⟨-,hv,hh⟩:=hi;obtain⟨h1,h2⟩:=Qs ws ws.length (zq4 _);rw[take_length]at h1 h2;rw[h1,h2];exact⟨hv.symm,hh.symm⟩
theorem uz{a b:List UInt8}(h:a.map dP=b.map dP):a=b:=(map_inj_right (λc d h=>by
 have:(dP c).data.toList=(dP d).data.toList:=by rw[h]
 injection this)).1 h
theorem Ju{f:List ByteArray}(hf:oK f)(q:List ByteArray):∃al,SR [] f=some al/\al=Qr (rG (dR::(f++ee::q)) (aF (dR::(f++ee::q)) fO bt)).vars (rG (dR::(f++ee::q)) (aF (dR::(f++ee::q)) fO bt)).hid (mC (dR::(f++ee::q)) bt) /\
   (∀a∈mC (dR::(f++ee::q)) bt,xW (rG (dR::(f++ee::q)) (aF (dR::(f++ee::q)) fO bt)).vars (rG (dR::(f++ee::q)) (aF (dR::(f++ee::q)) fO bt)).hid a) /\
   tW (rG (dR::(f++ee::q)) (aF (dR::(f++ee::q)) fO bt))/\(rG (dR::(f++ee::q)) (aF (dR::(f++ee::q)) fO bt)).vars.map dP=(Ls [] false (dR::f)).1/\(rG (dR::(f++ee::q)) (aF (dR::(f++ee::q)) fO bt)).hid.map dP=Qq [] (dR::f):=by
 obtain⟨ws,IM⟩:∃ws,ws=dR::(f++ee::q):=⟨_,rfl⟩;have hl:f.length<=ws.length+1:=by rw[IM];simp;omega
 have r0:Rd ws bt (fO::(f++ee::q)):=⟨rfl,IM,zq5 _⟩;rw[<-IM];have a1:=ej Gg r0;have r2:=Q0 hf (Bd q) a1.rd hl;obtain⟨al,g1,g2,g3⟩:=aeK hf (n:=ws.length+1) a1.rd hl (Bd q);have hi:=IU _ (ahE bt (IP ws)) r2.1;have hp:(rG ws (aF ws fO bt)).pos=f.length+1:=by
  have h1:=congrArg List.length r2.2.1;have h2:=r2.2.2;rw[IM]at h1 h2;simp only[length_drop,length_append,length_cons]at h1 h2;rw[<-IM]at h1 h2;omega
 rw[hp]at hi;obtain⟨-,hv,hh⟩:=hi;obtain⟨k1,k2⟩:=Qs ws (f.length+1) (by rw[IM];simp);have ht:ws.take (f.length+1)=dR::f:=by rw[IM];simp
 rw[ht]at k1 k2;refine⟨al,g1,g2,g3,Qf (pZ Jb),?_,?_⟩
 .rw[k1];exact hv.symm
 .rw[k2];exact hh.symm
theorem QM{f q q':List ByteArray}(hf:oK f):bW (mC (dR::(f++ee::q)) bt)=bW (mC (dR::(f++ee::q')) bt):=by
 obtain⟨al,g1,g2,g3,g4,g5,g6⟩:=Ju hf q;obtain⟨al',h1,h2,h3,h4,h5,h6⟩:=Ju hf q';rw[g1]at h1;injection h1 with h1;have ev:=uz (g5.trans h5.symm);have eh:=uz (g6.trans h6.symm);rw[<-ev,<-eh]at h2 h3;rw[WS,WS];refine congrArg cfT (wu (g:=nmA _ _) (P:=λa=>xW _ _ a/\a.k≠0) (λa b ha hb se=>Vu g4 ha.1 hb.1 ha.2 hb.2 se) _ _ (λa ha=>?_) (λa ha=>?_) (g2.symm.trans (h1.trans h2)))
 .obtain⟨k1,k2⟩:=mem_filter.1 ha;exact⟨g3 a k1,by simpa using k2⟩
 .obtain⟨k1,k2⟩:=mem_filter.1 ha;exact⟨h3 a k1,by simpa using k2⟩
theorem IC(nds:List Nd)(i:Nat):∀(l:List Nat) {h:List Bool},h.length=nds.length->(l.foldl (λh j=>if iZ nds j=true then h.set (nds.getD j aI).nx true else h) h).length=nds.length /\
  ((l.foldl (λh j=>if iZ nds j=true then h.set (nds.getD j aI).nx true else h) h).getD i false=true↔h.getD i false=true\/(i<nds.length/\∃j∈l,iZ nds j=true/\(nds.getD j aI).nx=i))
 |[],h,hl=>⟨hl,by simp⟩
 |j::l,h,hl=>by
  rw[foldl_cons];obtain⟨g1,g2⟩:=IC nds i l (h:=if iZ nds j=true then h.set (nds.getD j aI).nx true else h) (by split;rw[length_set];exact hl;exact hl);refine⟨g1,g2.trans ?_⟩;by_cases hb:iZ nds j=true
  .rw[if_pos hb];by_cases hn:(nds.getD j aI).nx<h.length
   .rw[dq _ _ _ _ _ hn];by_cases e:(nds.getD j aI).nx=i
    .rw[if_pos e];constructor
     .intro _;exact zq1 ⟨by rw[<-hl,<-e];exact hn,j,by simp,hb,e⟩
     .intro _;exact zq0 rfl
    .rw[if_neg e];constructor
     .rintro(h1|⟨h1,x,h2,h3⟩)
      .exact zq0 h1
      .exact zq1 ⟨h1,x,by simp[h2],h3⟩
     .rintro(h1|⟨h1,x,h2,h3⟩)
      .exact zq0 h1
      .rcases mem_cons.1 h2 with rfl|h2
       .exact absurd h3.2 e
       .exact zq1 ⟨h1,x,h2,h3⟩
   .rw[set_eq_of_length_le (by omega)];constructor
    .rintro(h1|⟨h1,x,h2,h3⟩)
     .exact zq0 h1
     .exact zq1 ⟨h1,x,by simp[h2],h3⟩
    .rintro(h1|⟨h1,x,h2,h3⟩)
     .exact zq0 h1
     .rcases mem_cons.1 h2 with rfl|h2
      .omega
      .exact zq1 ⟨h1,x,h2,h3⟩
  .rw[if_neg hb];constructor
   .rintro(h1|⟨h1,x,h2,h3⟩)
    .exact zq0 h1
    .exact zq1 ⟨h1,x,by simp[h2],h3⟩
   .rintro(h1|⟨h1,x,h2,h3⟩)
    .exact zq0 h1
    .rcases mem_cons.1 h2 with rfl|h2
     .exact absurd h3.1 hb
     .exact zq1 ⟨h1,x,h2,h3⟩
theorem ul(nds:List Nd)(i:Nat):(Mj nds).getD i false=true↔i<nds.length/\∃j,j<nds.length/\iZ nds j=true/\(nds.getD j aI).nx=i:=by
 have:=(IC nds i (range nds.length) (h:=replicate nds.length false) (by simp)).2;unfold Mj;rw[this];have h0:(replicate nds.length false).getD i false=false:=by
  rw[getD_eq_getElem?_getD,getElem?_replicate];split <;> rfl
 rw[h0];simp
section
variable {f b:List ByteArray} {k:Nat}
theorem Er.at{vs:List UInt8}{n:Nat}{N:List Nd}{C:List pE}(h:Er vs n N C){j:Nat}(hj:j<C.length):NI vs (n+j) (N.getD j aI) C[j]:=by
 have hl:=h.len;refine h.get j _ _ ?_ (getElem?_eq_getElem hj);rw[getD_eq_getElem?_getD,getElem?_eq_getElem (by omega)];rfl
theorem r7{A:List Nd}{e:Nd}{j:Nat}(h:j<A.length):(A++[e]).getD j aI=A.getD j aI:=by
 rw[getD_eq_getElem?_getD,getElem?_append_left h,<-getD_eq_getElem?_getD]
theorem zd{A:List Nd}{e:Nd}:(A++[e]).getD A.length aI=e:=by
 rw[getD_eq_getElem?_getD,getElem?_append_right (zq4 _)];simp
def bM(f b:List ByteArray):List ByteArray:=dR::(f++ee::(b++[gB]))
theorem Ty(hb:iB b k):∀q,gq rE q=false->gq rE (b++q)=false:=λ_ hq=>Nl hb hq
end
section
variable {m nv:Nat} {al:List ci}
theorem aha:Kd (sV (bW al) nv):=by
 intro p hp;obtain⟨a,ha,rfl⟩:=mem_map.1 (show p∈(al.filter (λa=>a.k==3||a.k==4)).map (jm (nz al)) from hp);have:=(mem_filter.1 ha).2;show a.k=3\/a.k=4;simpa using this
theorem Gh(ht:vm al)(hf:gH (bW al)=false):js (aQ (sV (bW al) nv)):=by
 have fj:=kz (mS ht hf) nv;exact⟨aha.td,qb fj,(aa7 hf nv).td fj⟩
end
def BQ(k:Nat)(l:List (Nat × Nat)):List (Nat × Nat):=l.map (λp=>(p.1+k,p.2))
section
variable {w:World} {B B':Nat} {va vb:Value}
theorem wY{a b:List (Nat × Nat)}(m:Nat)(hm:m<=1000)(ha:w.ownsRow B 82 2 va a.length (xJ a))(hb:w.ownsRow B' 82 2 vb b.length (xJ b))(hs:∀p∈a,p.1<=1000000):
  Calls prog 42 #[va,vb,.int .i64 m] w λe w'=>e=.returned (.bool (decide (BQ m a=b)))/\∃n,w'=w.drewN n:=by
 obtain⟨aa,ac,rfl,ha1,ha2⟩:=am ha;obtain⟨ba,bc,rfl,bz,aW⟩:=am hb;have yr:(BQ m a).length=a.length:=by simp[BQ]
 by_cases hl:a.length=b.length
 .have d0:((a.length:Int)==(b.length:Int))=true:=by simp;omega
  have HL:=ab hl;have HA:=ab ha;have HB:=ab hb;rw[<-hl]at bz d0;rw[<-hl];clear ha hb;go_enter func42,ntmps42;clear hl;go_wp2_with fail
  go_loopg [7] a.length (λgn iv wx=>∃(k:Nat),k+gn=a.length/\iv=.int .i64 k/\Hid ((∃n,wx=w.drewN n)/\∀i,(hi:i<a.length)->(hj:i<b.length)->i<k->(a[i].1+m,a[i].2)=b[i]))
  case atStart=>exact⟨0,by omega,rfl,ab ⟨⟨0,rfl⟩,λi _ _ h=>by omega⟩⟩
  case round =>
   obtain⟨k,gu,rfl,hI⟩:=hrel;obtain⟨G1,ze⟩:∃G1,G1=gk:=⟨_,rfl⟩;obtain⟨⟨n,rfl⟩,d9⟩:=uh hI;by_cases au:k<a.length
   .have hd:decide ((k:Int)<(a.length:Int))=true:=(by simp;omega);have EF:k<b.length:=(by have:=uh HL;omega);obtain⟨g,cap,dE,-,-⟩:=b8 (uh HA) (by omega);simp only[Value.slice.injEq,true_and]at dE;obtain⟨rfl,rfl⟩:=dE;obtain⟨g2,cap2,db,-,-⟩:=b8 (uh HB) (by omega);simp only[Value.slice.injEq,true_and]at db;obtain⟨rfl,rfl⟩:=db;have x0:w.cell? ⟨g,k*2,none⟩=some (.int .i64 (a[k].1:Int)):=((uh HA).cellAt (k*2) (by omega)).trans (nQ au).1;have x1:w.cell? ⟨g,k*2+1,none⟩=some (.int .i64 (a[k].2:Int)):=((uh HA).cellAt (k*2+1) (by omega)).trans (nQ au).2;have y0:w.cell? ⟨g2,k*2,none⟩=some (.int .i64 (b[k].1:Int)):=((uh HB).cellAt (k*2) (by omega)).trans (nQ EF).1;have y1:w.cell? ⟨g2,k*2+1,none⟩=some (.int .i64 (b[k].2:Int)):=((uh HB).cellAt (k*2+1) (by omega)).trans (nQ EF).2;have SH:=hs a[k] (getElem_mem au);obtain⟨p,hp⟩:∃p,p=a[k]:=⟨_,rfl⟩;obtain⟨q,hq⟩:∃q,q=b[k]:=⟨_,rfl⟩;rw[<-hp]at x0 x1 SH;rw[<-hq]at y0 y1;obtain⟨p1,p2⟩:=p;obtain⟨q1,q2⟩:=q;simp only at x0 x1 y0 y1 SH;have k1:(0:Int)<=(k:Int):=(by omega);have k2:(k:Int)<(a.length:Int):=(by omega);have ewr:IntKind.i64.wrap ((p1:Int)+(m:Int))=(p1:Int)+(m:Int):=(by rw[IntKind.wrap_i64];omega);by_cases h2:p2=q2
    .have e2:((p2:Int) != (q2:Int))=false:=(by simp;omega);by_cases h1:p1+m=q1
     .have e1:((p1:Int)+(m:Int) != (q1:Int))=false:=(by simp;omega);have HN:Hid (∀i,(hi:i<a.length)->(hj:i<b.length)->i<k+1->(a[i].1+m,a[i].2)=b[i]):=ab (λi hi hj h=>by
       by_cases e:i=k
       .subst e;rw[<-hp,<-hq];simp only;rw[h1,h2]
       .exact d9 i hi hj (by omega))
      clear h1 h2 hp hq d9 hI SH hs yr;go_upto_region 6 with fail;go_quiet (fail)
      go_wp2_with fail
      go_roundg (G1-1)
      case rel=>exact⟨k+1,by omega,by go_num,ab ⟨⟨_,rfl⟩,uh HN⟩⟩
      case measure=>omega
     .have e1:((p1:Int)+(m:Int) != (q1:Int))=true:=(by simp;omega);have HN:Hid (decide (BQ m a=b)=false):=ab (by
       rw[decide_eq_false_iff_not];intro e;have h9:(BQ m a)[k]?=b[k]?:=(by rw[e]);rw[getElem?_eq_getElem EF,<-hq]at h9;unfold BQ at h9;rw[getElem?_map,getElem?_eq_getElem au,<-hp]at h9;simp at h9;exact h1 h9.1)
      clear h1 h2 hp hq d9 hI SH hs yr;go_upto_region 6 with fail;go_quiet (fail)
      go_wp2_with fail
      go_ret;exact⟨by rw[uh HN];rfl,by first|exact⟨_,rfl⟩|exact⟨_,drewN_drewN _ _ _⟩⟩
    .have e2:((p2:Int) != (q2:Int))=true:=(by simp;omega);have HN:Hid (decide (BQ m a=b)=false):=ab (by
      rw[decide_eq_false_iff_not];intro e;have h9:(BQ m a)[k]?=b[k]?:=(by rw[e]);rw[getElem?_eq_getElem EF,<-hq]at h9;unfold BQ at h9;rw[getElem?_map,getElem?_eq_getElem au,<-hp]at h9;simp at h9;exact h2 h9.2)
     clear h2 hp hq d9 hI SH hs yr;go_upto_region 6 with fail;go_quiet (fail)
     go_wp2_with fail
     go_ret;exact⟨by rw[uh HN];rfl,by first|exact⟨_,rfl⟩|exact⟨_,drewN_drewN _ _ _⟩⟩
   .have hd:decide ((k:Int)<(a.length:Int))=false:=(by simp;omega);have HN:Hid (decide (BQ m a=b)=true):=ab (by
     rw[decide_eq_true_eq];refine ext_getElem (by rw[yr];exact uh HL) (λi h1 h2=>?_);have h3:i<a.length:=(by omega);rw[<-d9 i h3 h2 (by omega)];simp[BQ])
    clear d9 hI hs yr;go_wp2_with fail
    go_ret;exact⟨by rw[uh HN];rfl,by first|exact⟨_,rfl⟩|exact⟨_,drewN_drewN _ _ _⟩⟩
 .have d0:((a.length:Int)==(b.length:Int))=false:=by simp;omega
  have HN:Hid (decide (BQ m a=b)=false):=ab (by rw[decide_eq_false_iff_not];intro e;exact hl (by rw[<-yr,e]));clear ha hb hl hs yr;go_enter func42,ntmps42;go_wp2_with fail
  go_ret;exact⟨by rw[uh HN];rfl,0,rfl⟩
end
theorem ab0(nds:List Nd)(n k:Nat):sW (nL nds) n k=false:=by
 unfold sW nL;simp only[getD_eq_getElem?_getD,getElem?_replicate];split
 .simp only[Option.getD_some,getElem?_replicate];split <;> rfl
 .rfl
theorem oH(nds:List Nd)(J:Nat->CF->Prop)(Fl:Nat->Nat->Prop):ij nds.length J Fl (nL nds) :=
 ⟨JL nds,λn e he=>by rw[Rr]at he;simp at he,λn k _ h=>by rw[ab0]at h;cases h⟩
theorem vQ{nds:List Nd}{nv:Nat}{al:List ci}(h:(mF nds nv al).lp=false)(n:Nat):(mF nds nv al).hd.getD n false=false:=by
 cases hh:(mF nds nv al).hd.getD n false with
 |false=>rfl
 |true =>
  obtain⟨-,j,hj,hb,-⟩:=(ul nds n).1 hh;have h:(range nds.length).any (iZ nds)=false:=h;rw[any_eq_false]at h;exact absurd hb (h j (mem_range.2 hj))
structure Fin(c:Cd)(nds:List Nd)(al:List ci)(nv:Nat)(S:Sr):Prop where
 cl:∀n,∀e∈bq S n,Wu c S n e.f
 td:qo S
 kl:EnN js S
 beg:gH (bW al)=false->R3 c S (nds.length-1) 0 (aQ (sV (bW al) nv))
section
variable {nds:List Nd} {nv:Nat} {al:List ci}
theorem On(hA:MA al)(hO:sQ nds)(hp:0<nds.length)(hN:Nf (rD nds nv al)):Fin (mF nds nv al) nds al nv (rD nds nv al):=by
 obtain⟨c,hc⟩:∃c,c=mF nds nv al:=⟨_,rfl⟩;have kD:c.nds=nds:=by rw[hc];rfl
 unfold rD at hN ⊢;rw[<-hc]at hN ⊢;have h0:=JL nds;obtain⟨s1,dy⟩:∃s1,s1=io c 4000 nv al (nL nds):=⟨_,rfl⟩;rw[<-dy]at hN ⊢;have hE:ki nds.length s1/\jA (nL nds) s1/\ij nds.length (λ_ f=>js f) (λ_ _=>True) s1/\(Nf s1->gH (bW al)=false->R3 c s1 (nds.length-1) 0 (aQ (sV (bW al) nv))):=by
  rw[dy];unfold io;rw[kD];by_cases lq:gH (bW al)=true
  .rw[if_pos lq];exact⟨h0,jA.refl _,oH _ _ _,λ_ h=>by rw[lq]at h;cases h⟩
  .rw[if_neg lq];have hf:gH (bW al)=false:=(by simpa using lq);have fj:=kz (mS hA.tm hf) nv;exact⟨(Ac (c:=c) fj.tidy h0 (by omega) (by omega)).2.1,Hq fj.tidy h0 (by omega) (by omega),tZ (by omega) (by omega) fj.tidy (oH _ _ _) (AY fj.tidy (Gh hA.tm hf)),λhN _=>M5 fj.tidy h0 (by omega) (by omega) hN⟩
 obtain⟨e1,e2,e3,e4⟩:=hE;obtain⟨r1,r2,-⟩:=BP (c:=c) (fuel:=4000) (by rw[kD]) (by rw[kD];exact hO) 1000000 e1;have rH:Nf s1:=hN.of r1 (nI _);refine⟨Rb (by rw[kD]) (by rw[kD];exact hO) 1000000 e1 hN (λn e he hd=>?_),r2.td,(uK (U9 (by rw[kD]) (by rw[kD];exact hO)) 1000000 e3).kn,λhf=>(e4 rH hf).mono r1⟩;have:=e2 n e he hd;rw[Rr]at this;simp at this
end
structure yH(nds nds':List Nd)(k:Nat):Prop where
 l:nds.length=k+1
 l':nds'.length=k+2
 s:(nds'.getD 0 aI).op=6/\(nds'.getD 0 aI).nx=1
 n:∀i,i<k->(nds'.getD (i+1) aI).op=(nds.getD i aI).op/\(∀f,cj (nds'.getD (i+1) aI) f=cj (nds.getD i aI) f)/\(nds'.getD (i+1) aI).nx=(nds.getD i aI).nx+1/\((nds.getD i aI).op=7\/(nds.getD i aI).op=8\/(nds.getD i aI).op=9->(nds'.getD (i+1) aI).ot=(nds.getD i aI).ot+1)
 e:(nds.getD k aI).op=0
 e':(nds'.getD (k+1) aI).op=0
section
variable {nds nds':List Nd} {k nv:Nat} {al al':List ci}
theorem TK{nd nd':Nd}(h:nd.op=0)(h':nd'.op=0)(f:CF):cj nd' f=cj nd f:=by
 unfold cj;rw[if_pos h,if_pos h']
theorem yH.bk(h:yH nds nds' k){j:Nat}(hj:j<k+1):iZ nds' (j+1)=iZ nds j:=by
 unfold iZ;by_cases hk:j<k
 .obtain⟨h1,-,h3,-⟩:=h.n j hk;rw[h1,h3];congr 1;simp
 .have:j=k:=by omega
  rw[this,h.e,h.e'];rfl
theorem yH.b0(h:yH nds nds' k):iZ nds' 0=false:=by
 unfold iZ;rw[h.s.1];rfl
theorem yH.lp(h:yH nds nds' k):(mF nds' nv al').lp=(mF nds nv al).lp:=by
 show(range nds'.length).any (iZ nds')=(range nds.length).any (iZ nds);rw[Bool.eq_iff_iff,any_eq_true,any_eq_true,h.l,h.l'];constructor
 .rintro⟨j,hj,h1⟩;have hj:=mem_range.1 hj;cases j with
  |zero=>rw[h.b0]at h1;cases h1
  |succ j=>exact⟨j,mem_range.2 (by omega),by rw[<-h.bk (by omega)];exact h1⟩
 .rintro⟨j,hj,h1⟩;have hj:=mem_range.1 hj;exact⟨j+1,mem_range.2 (by omega),by rw[h.bk (by omega)];exact h1⟩
theorem yH.nxt(h:yH nds nds' k){j:Nat}(hj:j<k+1)(hb:iZ nds j=true):(nds'.getD (j+1) aI).nx=(nds.getD j aI).nx+1:=by
 by_cases hk:j<k
 .exact(h.n j hk).2.2.1
 .have:j=k:=by omega
  rw[this]at hb;unfold iZ at hb;rw[h.e]at hb;cases hb
theorem yH.hd(h:yH nds nds' k)(i:Nat):(Mj nds').getD (i+1) false=(Mj nds).getD i false:=by
 rw[Bool.eq_iff_iff,ul,ul,h.l,h.l'];constructor
 .rintro⟨hi,j,hj,h1,h2⟩;cases j with
  |zero=>rw[h.b0]at h1;cases h1
  |succ j =>
   rw[h.bk (by omega)]at h1;rw[h.nxt (by omega) h1]at h2;exact⟨by omega,j,by omega,h1,by omega⟩
 .rintro⟨hi,j,hj,h1,h2⟩;exact⟨by omega,j+1,by omega,by rw[h.bk (by omega)];exact h1,by rw[h.nxt (by omega) h1,h2]⟩
theorem yH.h0(h:yH nds nds' k):(Mj nds').getD 0 false=false:=by
 cases hh:(Mj nds').getD 0 false with
 |false=>rfl
 |true =>
  obtain⟨-,j,hj,h1,h2⟩:=(ul nds' 0).1 hh;rw[h.l']at hj;cases j with
  |zero=>rw[h.b0]at h1;cases h1
  |succ j =>
   rw[h.bk (by omega)]at h1;rw[h.nxt (by omega) h1]at h2;omega
theorem yH.ndx(h:yH nds nds' k){i:Nat}(hi:i<k+1):NdX (nds.getD i aI) (nds'.getD (i+1) aI):=by
 by_cases hk:i<k
 .exact⟨(h.n i hk).1,(h.n i hk).2.1⟩
 .have:i=k:=by omega
  rw[this];exact⟨by rw[h.e,h.e'],TK h.e h.e'⟩
theorem yH.go(h:yH nds nds' k){i:Nat}(hi:i<k+1):((nds.getD i aI).op≠0->(nds'.getD (i+1) aI).nx=(nds.getD i aI).nx+1)/\((nds.getD i aI).op=7\/(nds.getD i aI).op=8\/(nds.getD i aI).op=9->(nds'.getD (i+1) aI).ot=(nds.getD i aI).ot+1):=by
 by_cases hk:i<k
 .exact⟨λ_=>(h.n i hk).2.2.1,(h.n i hk).2.2.2⟩
 .have:i=k:=by omega
  rw[this];exact⟨λh9=>absurd h.e h9,λh9=>by rw[h.e]at h9;omega⟩
theorem abY(h:yH nds nds' k)(m0:bW al'=bW al)(hO:sQ nds)(ON:sQ nds')(hA:MA al){S':Sr}(hF:Fin (mF nds' nv al') nds' al' nv S'):∀n j,j=2\/j=3\/j=4->sW (rD nds nv al) n j=true->sW S' (n+1) j=true:=by
 have hP:Pla (mF nds' nv al') (mF nds nv al) nds.length S' (λn=>n+1) (λ_=>True):=by
  refine⟨rfl,ON,hO,h.lp.symm,λhl n=>vQ hl n,λhl n=>vQ hl n,λm hm _=>?_,λm _=>(h.hd m).symm,λm hm=>absurd trivial hm,λm _ hm=>absurd trivial hm,hF.cl,hF.td,hF.kl⟩;rw[h.l]at hm;obtain⟨g1,g2⟩:=h.go hm;have gx:=h.ndx hm;exact⟨⟨gx.op.symm,λf=>(gx.ef f).symm⟩,λh9=>⟨(g1 h9).symm,trivial⟩,λh9=>⟨(g2 h9).symm,trivial⟩⟩
 have hI:=Jp hP;have hS:ij nds.length (Jm (mF nds' nv al') S' (λn=>n+1) (λ_=>True)) (Flm S' (λn=>n+1) (λ_=>True)) (io (mF nds nv al) 4000 nv al (nL nds)):=by
  unfold io;by_cases lq:gH (bW al)=true
  .rw[if_pos lq];exact oH _ _ _
  .rw[if_neg lq];have hf:gH (bW al)=false:=(by simpa using lq);have fj:=kz (mS hA.tm hf) nv;have gJ:=Gh (nv:=nv) hA.tm hf;obtain⟨f0,Mm⟩:∃f0,f0=aQ (sV (bW al) nv):=⟨_,rfl⟩;have hb:=hF.beg (by rw[m0];exact hf);have sn:Td f0:=(by rw[Mm];exact fj.tidy);rw[m0,<-Mm]at hb;rw[<-Mm]at gJ;show ij _ _ _ (dU (mF nds nv al) 4000 (nds.length-1) 0 (aQ (sV (bW al) nv)) (nL nds));rw[<-Mm];have hC:=qv (c:=mF nds' nv al') (λhl n=>vQ hl n) hb sn gJ sn gJ (lL.refl sn.ok gJ);refine tZ (by rw[h.l];omega) (by rw[h.l];omega) sn (oH _ _ _) (vq hP sn (zq0 trivial) gJ (y:=f0) ?_);have el:nds.length-1+1=nds'.length-1:=(by rw[h.l,h.l'];rfl);have fC:∀{F z:CF} ,Td F->js F->(∃e∈bq S' 0,e.f=z)->lL F z->SX (mF nds' nv al') S' 0 1 (aQ z) F:=fun {F z} gf kF1 hz hE=>by
    obtain⟨e,he,rfl⟩:=hz;have dT:=(hF.cl 0 e he).nx;have htz:=hF.td.at 0 e he;have hkz:=hF.kl 0 e he;have e6:(mF nds' nv al').nds.getD 0 aI=nds'.getD 0 aI:=rfl;rw[e6,qz h.s.1,h.s.2]at dT;exact qv (λhl n=>vQ hl n) (dT _ (mem_singleton.2 rfl)) htz.ok.tidy (P0 htz.ok hkz) gf kF1 (hE.tV htz.ok)
   refine⟨λhl jN=>by rw[el];exact hC.fl hl jN,λhl=>?_,λhl G hG hc=>?_⟩
   .obtain⟨e,he,hE⟩:=hC.no hl;exact(fC sn gJ ⟨e,he,rfl⟩ hE).no hl
   .obtain⟨kG,e,he,hE,-⟩:=hC.yes hl G hG hc;have hr:=wX hG;have:=(fC hr (Ba hG.ok kG) ⟨e,he,rfl⟩ hE).yes hl (qf G) hr (Wv.refl _);rw[X0 (P9 hG.ok)]at this;exact⟨kG,this.2⟩
 intro n j hj ju;exact((uK hI 1000000 hS).fl n j hj ju).2
theorem abX(h:yH nds nds' k)(m0:bW al'=bW al)(hO:sQ nds)(ON:sQ nds')(hA:MA al){S:Sr}(hF:Fin (mF nds nv al) nds al nv S):∀n j,j=2\/j=3\/j=4->sW (rD nds' nv al') n j=true->n≠0/\sW S (n-1) j=true:=by
 have hP:Pla (mF nds nv al) (mF nds' nv al') nds'.length S (λn=>n-1) (λn=>n≠0):=by
  refine⟨rfl,hO,ON,h.lp,λhl n=>vQ hl n,λhl n=>vQ hl n,λm hm hm0=>?_,λm hm=>?_,λm hm=>?_,λm _ hm=>?_,hF.cl,hF.td,hF.kl⟩
  .obtain⟨i,rfl⟩:∃i,m=i+1:=⟨m-1,by omega⟩;rw[h.l']at hm;obtain⟨g1,g2⟩:=h.go (i:=i) (by omega);have gx:=h.ndx (i:=i) (by omega);have e1:(mF nds' nv al').nds=nds':=rfl;have e2:(mF nds nv al).nds=nds:=rfl;rw[e1,e2,Nat.add_sub_cancel];refine⟨gx,λh9=>?_,λh9=>?_⟩
   .rw[gx.op]at h9;rw[g1 h9];exact⟨by omega,by omega⟩
   .rw[gx.op]at h9;rw[g2 h9];exact⟨by omega,by omega⟩
  .obtain⟨i,rfl⟩:∃i,m=i+1:=⟨m-1,by omega⟩;rw[Nat.add_sub_cancel];exact h.hd i
  .have:m=0:=(by omega);rw[this];exact h.h0
  .have:m=0:=(by omega);rw[this];have e1:(mF nds' nv al').nds=nds':=rfl;rw[e1,h.s.2];exact⟨h.s.1,rfl,by omega⟩
 have hI:=Jp hP;have hS:ij nds'.length (Jm (mF nds nv al) S (λn=>n-1) (λn=>n≠0)) (Flm S (λn=>n-1) (λn=>n≠0)) (io (mF nds' nv al') 4000 nv al' (nL nds')):=by
  unfold io;rw[m0];by_cases lq:gH (bW al)=true
  .rw[if_pos lq];exact oH _ _ _
  .rw[if_neg lq];have hf:gH (bW al)=false:=(by simpa using lq);have fj:=kz (mS hA.tm hf) nv;have gJ:=Gh (nv:=nv) hA.tm hf;have hb:=hF.beg hf;obtain⟨f0,Mm⟩:∃f0,f0=aQ (sV (bW al) nv):=⟨_,rfl⟩;have sn:Td f0:=(by rw[Mm];exact fj.tidy);rw[<-Mm]at hb gJ;show ij _ _ _ (dU (mF nds' nv al') 4000 (nds'.length-1) 0 (aQ (sV (bW al) nv)) (nL nds'));rw[<-Mm];refine tZ (by rw[h.l'];omega) (by rw[h.l'];omega) sn (oH _ _ _) (vq hP sn (zq0 (by rw[h.l'];omega)) gJ (y:=f0) ?_);have el:nds'.length-1-1=nds.length-1:=(by rw[h.l,h.l'];rfl);show SX _ _ (nds'.length-1-1) (0-1) _ _;rw[el];exact qv (λhl n=>vQ hl n) hb sn gJ sn gJ (lL.refl sn.ok gJ)
 intro n j hj ju;exact(uK hI 1000000 hS).fl n j hj ju
theorem abW(h:yH nds nds' k)(m0:bW al'=bW al)(hO:sQ nds)(ON:sQ nds')(hA:MA al)(hA':MA al')(hN:Nf (rD nds nv al))(hN':Nf (rD nds' nv al')):(ya nds' nv al').al=BQ 1 (ya nds nv al).al/\(ya nds' nv al').vd=(ya nds nv al).vd:=by
 have h1:=abY h m0 hO ON hA (On hA' ON (by rw[h.l'];omega) hN');have h2:=abX h m0 hO ON hA (On hA hO (by rw[h.l];omega) hN);have hw:=Hm nds nv al;have hw':=Hm nds' nv al';rw[h.l]at hw;rw[h.l']at hw';have key:Hj (rD nds' nv al').wr=BQ 1 (Hj (rD nds nv al).wr):=by
  unfold Hj BQ;rw[hw,hw',range_succ_eq_map,flatMap_cons,flatMap_map,map_flatMap];have e0:([2,3,4].filter (λk=>((rD nds' nv al').wr.getD 0 []).getD k false))=[]:=by
   rw[filter_eq_nil_iff];intro j hj ju;have hj:j=2\/j=3\/j=4:=(by simpa using hj);exact(h2 0 j hj ju).1 rfl
  rw[e0,map_nil,nil_append];have e1:∀n,([2,3,4].filter (λk=>((rD nds' nv al').wr.getD (n+1) []).getD k false))=([2,3,4].filter (λk=>((rD nds nv al).wr.getD n []).getD k false)):=λn=>by
   apply filter_congr;intro j hj;have hj:j=2\/j=3\/j=4:=(by simpa using hj);rw[Bool.eq_iff_iff];exact⟨λh9=>by have:=(h2 (n+1) j hj h9).2;rw[Nat.add_sub_cancel]at this;exact this,h1 n j hj⟩
  congr 1;funext n;rw[e1 n,map_map];rfl
 have r:∀{s:Sr},s.fu=false->(Cy s).al=Hj s.wr/\(Cy s).vd=if Hj s.wr=[] then 0 else 1:=fun {s} h=>by
  unfold Cy;rw[if_neg (by rw[h];simp)];exact⟨rfl,rfl⟩
 unfold ya;rw[(r hN.2).1,(r hN.2).2,(r hN'.2).1,(r hN'.2).2,key];refine⟨rfl,?_⟩;have:BQ 1 (Hj (rD nds nv al).wr)=[]↔Hj (rD nds nv al).wr=[]:=by unfold BQ;exact map_eq_nil_iff
 by_cases e:Hj (rD nds nv al).wr=[]
 .rw[if_pos e,if_pos (this.2 e)]
 .rw[if_neg e,if_neg (λh9=>e (this.1 h9))]
end
theorem X5{c:UInt8}(hc:mf c=false):∀(x r:List UInt8),(x++c::r).takeWhile mf=x.takeWhile mf
 |[],r=>by rw[nil_append,takeWhile_cons,hc];rfl
 |d::x,r=>by
  rw[cons_append,takeWhile_cons,takeWhile_cons];split
  .rw[X5 hc x r]
  .rfl
structure Brc(c:UInt8):Prop where
 l:mf c=false
 a:c≠62
 b:c≠61
 s:xd c.toNat=true
 w:¬ (c=32\/c=10)
 p:c≠45
 q:c≠33
theorem No:Brc 123:=⟨by decide,by decide,by decide,by decide,by decide,by decide,by decide⟩
theorem aez:Brc 125:=⟨by decide,by decide,by decide,by decide,by decide,by decide,by decide⟩
theorem ahD{c:UInt8}(hl0:mf c=false)(ha0:c≠62)(tH:c≠61)(d:UInt8)(x r:List UInt8):aR (d::x++c::r)=aR (d::x):=by
 have h1:bE (d::x++c::r)=bE (d::x):=by unfold bE;rw[X5 hl0]
 have h2:((d::x++c::r).take 2=[45,62]\/(d::x++c::r).take 2=[33,61])↔((d::x).take 2=[45,62]\/(d::x).take 2=[33,61]):=by
  cases x with
  |nil =>
   simp only[cons_append,nil_append,take_succ_cons,take_zero,take_nil];constructor
   .rintro(h|h) <;> injection h with _ h <;> injection h with h _
    .exact absurd h ha0
    .exact absurd h tH
   .rintro(h|h) <;> injection h with _ h <;> cases h
  |cons y x=>simp
 unfold aR;rw[h1];by_cases hl:0<bE (d::x)
 .rw[if_pos hl,if_pos hl]
 .rw[if_neg hl,if_neg hl];by_cases h3:(d::x).take 2=[45,62]\/(d::x).take 2=[33,61]
  .rw[if_pos h3,if_pos (h2.2 h3)]
  .rw[if_neg h3,if_neg (λh=>h3 (h2.1 h))];rfl
theorem qh{c:UInt8}(hc:Brc c):∀(n:Nat) (x r:List UInt8),x.length<=n->jc (x++c::r)=(jc x).bind (λL=>(jc r).map (L++[c]::·))
 |_,[],r,_=>by
  have:=Rh hc.l hc.p hc.q hc.s hc.w r;rw[nil_append,show c::r=[c]++r from rfl,this];rfl
 |0,_::_,_,h=>by simp at h
 |n+1,d::x,r,h=>by
  simp only[length_cons]at h;by_cases hb:d=32\/d=10
  .rw[cons_append,oE _ _ hb,oE _ _ hb];exact qh hc n x r (by omega)
  .have hw:=ahD hc.l hc.a hc.b d x r;by_cases h0:aR (d::x)=0
   .rw[cons_append]at hw ⊢;rw[rs d x hb h0,rs d (x++c::r) hb (by rw[hw];exact h0)];rfl
   .rw[cons_append]at hw ⊢;have m8:=qj (d::x);rw[lH d x hb h0,lH d (x++c::r) hb (by rw[hw];exact h0),hw];have e1:(d::(x++c::r)).drop (aR (d::x))=(d::x).drop (aR (d::x))++c::r:=by
     rw[<-cons_append,drop_append_of_le_length m8]
    have e2:(d::(x++c::r)).take (aR (d::x))=(d::x).take (aR (d::x)):=by
     rw[<-cons_append,take_append_of_le_length m8]
    rw[e1,e2,qh hc n _ r (by simp only[length_drop,length_cons];omega)];cases jc ((d::x).drop (aR (d::x))) with
    |none=>rfl
    |some L=>cases jc r <;> rfl
theorem oG:∀(n:Nat) (x:List UInt8) (L:List (List UInt8)),x.length<=n->jc x=some L->∀w∈L,∀c∈w,c∈x
 |_,[],L,_,h,w,hw=>by
  rw[BT]at h;injection h with h;rw[<-h]at hw;simp at hw
 |0,_::_,_,h,_,_,_=>by simp at h
 |n+1,d::x,L,hl,h,w,hw=>by
  simp only[length_cons]at hl;by_cases hb:d=32\/d=10
  .rw[oE _ _ hb]at h;intro c hc;exact mem_cons_of_mem _ (oG n x L (by omega) h w hw c hc)
  .by_cases h0:aR (d::x)=0
   .rw[rs d x hb h0]at h;cases h
   .rw[lH d x hb h0]at h;obtain⟨L',h1,rfl⟩:=Option.map_eq_some_iff.1 h;intro c hc;rcases mem_cons.1 hw with rfl|hw
    .exact mem_of_mem_take hc
    .exact mem_of_mem_drop (oG n _ L' (by simp only[length_drop,length_cons];omega) h1 w hw c hc)
theorem y7{α:Type}{z:α}:∀{a b a' b':List α},z ∉ a->z ∉ a'->a++z::b=a'++z::b'->a=a'/\b=b'
 |[],_,[],_,_,_,h=>by injection h with _ h;exact⟨rfl,h⟩
 |[],_,y::a',_,_,h2,h=>by injection h with h _;exact absurd (by rw[h];simp) h2
 |x::a,_,[],_,h1,_,h=>by injection h with h _;exact absurd (by rw[h];simp) h1
 |x::a,_,y::a',_,h1,h2,h=>by
  rw[cons_append,cons_append]at h;injection h with e h;obtain⟨g1,g2⟩:=y7 (λhm=>h1 (by simp[hm])) (λhm=>h2 (by simp[hm])) h;exact⟨by rw[e,g1],g2⟩
theorem sH{l:List UInt8}{L:List (List UInt8)}(h:jc l=some L):qe l=L.map bA:=by unfold qe;rw[h];rfl
theorem E9{L:List (List UInt8)}{x:List UInt8}:bA x∈L.map bA↔x∈L:=by
 constructor
 .intro h;obtain⟨y,hy,e⟩:=mem_map.1 h;rw[<-Nc e];exact hy
 .exact λh=>mem_map.2 ⟨x,h,rfl⟩
structure adx(l A B W:List UInt8)(f b:List ByteArray):Prop where
 e:l=A++123::(B++125::W)
 a:123 ∉ A
 w:125 ∉ W
 sA:(jc A).map (·.map bA)=some (dR::f)
 sB:(jc B).map (·.map bA)=some b
theorem Dy{α:Type}(p:α->Bool):∀(l:List α),(∃x∈l,p x=true)->∃a z b,l=a++z::b/\p z=true/\∀x∈b,p x=false
 |[],h=>by obtain⟨x,hx,-⟩:=h;simp at hx
 |y::l,h=>by
  by_cases hl:∃x∈l,p x=true
  .obtain⟨a,z,b,h1,h2,h3⟩:=Dy p l hl;exact⟨y::a,z,b,by rw[h1];rfl,h2,h3⟩
  .obtain⟨x,hx,hp⟩:=h;rcases mem_cons.1 hx with rfl|hx
   .exact⟨[],x,l,rfl,hp,λz hz=>by
     cases hc:p z with
     |false=>rfl
     |true=>exact absurd ⟨z,hz,hc⟩ hl⟩
   .exact absurd ⟨x,hx,hp⟩ hl
theorem abE{l:List UInt8}(h:mP l=0):∃A B W f b k,adx l A B W f b/\oK f/\iB b k/\qe l=bM f b:=by
 obtain⟨f,b,k,hf,hb,hw⟩:=abF h;obtain⟨-,hs,-⟩:=ro h;obtain⟨L,hL⟩:=Option.ne_none_iff_exists'.1 hs;have hLw:L.map bA=bM f b:=by rw[<-sH hL];exact hw
 have hm:([123]:List UInt8)∈L:=by
  rw[<-E9,hLw];unfold bM;simp[show bA [123]=ee from rfl]
 have hc:(123:UInt8)∈l:=oG _ l L (zq4 _) hL _ hm 123 (by simp);obtain⟨A,R,hA,hl⟩:∃A R,123 ∉ A/\l=A++123::R:=by
  obtain⟨A,R,h1,h2⟩:=mem_iff_append.1 hc |> λ⟨s,t,e⟩=>(⟨s,t,e,trivial⟩:∃A R,l=A++123::R/\True);clear h2;have key:∀l:List UInt8,123∈l->∃A R,123 ∉ A/\l=A++123::R:=by
   intro l;induction l with
   |nil=>intro h;simp at h
   |cons x l ih =>
    intro h;by_cases e:x=123
    .exact⟨[],l,by simp,by rw[e];rfl⟩
    .rcases mem_cons.1 h with h|h
     .exact absurd h.symm e
     .obtain⟨A,R,h1,h2⟩:=ih h;exact⟨x::A,R,by simp[h1,Ne.symm e],by rw[h2];rfl⟩
  exact key l hc
 have Dv:=qh No A.length A R (zq4 _);rw[<-hl,hL]at Dv;cases hsA:jc A with
 |none=>rw[hsA]at Dv;cases Dv
 |some LA =>
  rw[hsA]at Dv;cases hsR:jc R with
  |none=>rw[hsR]at Dv;cases Dv
  |some LR =>
   rw[hsR]at Dv;have hLe:L=LA++[123]::LR:=(by injection Dv);have hLA:ee ∉ LA.map bA:=λhh=>by
    have:([123]:List UInt8)∈LA:=E9.1 hh;exact hA (oG _ A LA (zq4 _) hsA _ this 123 (by simp))
   have ju:ee ∉ dR::f:=λhh=>by
    rcases mem_cons.1 hh with hh|hh
    .exact absurd hh (aq (by simp[dR,ee]))
    .exact aeJ hf _ hh rfl
   have hcut:LA.map bA++ee::LR.map bA=(dR::f)++ee::(b++[gB]):=by
    have:=hLw;rw[hLe,map_append,map_cons]at this;exact this
   obtain⟨c1,c2⟩:=y7 hLA ju hcut;have tb:([125]:List UInt8)∈LR:=(by rw[<-E9,c2];simp[show bA [125]=gB from rfl]);have vO:(125:UInt8)∈R:=oG _ R LR (zq4 _) hsR _ tb 125 (by simp);obtain⟨B,z,W,hR,hz,hW⟩:=Dy (λc:UInt8=>c==125) R ⟨125,vO,by simp⟩;have hz:z=125:=(by simpa using hz);subst hz;have hW:125 ∉ W:=λhh=>by have:=hW _ hh;simp at this
   have wb:=qh aez B.length B W (zq4 _);rw[<-hR,hsR]at wb;cases hsB:jc B with
   |none=>rw[hsB]at wb;cases wb
   |some LB =>
    rw[hsB]at wb;cases hsW:jc W with
    |none=>rw[hsW]at wb;cases wb
    |some LW =>
     rw[hsW]at wb;have hLR:LR=LB++[125]::LW:=(by injection wb);have hLW:LW=[]:=by
      rcases eq_nil_or_concat LW with h0|⟨L1,y,h0⟩
      .exact h0
      .exfalso;rw[concat_eq_append]at h0;have e:(LB.map bA++gB::L1.map bA)++[bA y]=b++[gB]:=(by rw[<-c2,hLR,h0];simp[show bA [125]=gB from rfl]);have:=(append_inj' e rfl).2;injection this with this;have hy:y=[125]:=Nc this;exact hW (oG _ W LW (zq4 _) hsW y (by rw[h0];simp) 125 (by rw[hy];simp))
     have xN:LB.map bA=b:=by
      have e:LB.map bA++[gB]=b++[gB]:=(by rw[<-c2,hLR,hLW];simp[show bA [125]=gB from rfl]);exact(append_inj' e rfl).1
     refine⟨A,B,W,f,b,k,⟨by rw[hl,hR],hA,hW,?_,?_⟩,hf,hb,hw⟩
     .rw[hsA,Option.map_some,c1]
     .rw[hsB,Option.map_some,xN]
def skI:pE:=⟨aD,em,em,em,0,false⟩
theorem abV:rsI [aD]=some skI:=by show(if aX aD aD=true then _ else _)=_;rw[if_pos (aT _)];rfl
theorem Np:Wt [aD,fE] [skI]:=by
 intro ws f n q s hf hn hq mz;simp only[length_cons,length_nil]at hf hn;cases n with
 |zero=>omega
 |succ n =>
  obtain⟨nd,i',⟨l1,l2,l3,l4⟩,lR,hS⟩:=Rw (p:=[aD]) (q:=q) k9.skip mz;rw[abV]at lR;injection lR with lR;subst lR;have F8:Rd ws s (aD::(fE::q)):=mz;have ec:kw (cL ws f) ws s=rJ ws s:=by
   unfold kw;rw[cy py F8,cy jR F8,show aX aD mc=false from bj (Rj k9.skip aD (by simp)),show aX aD bO=false from bj (Rl k9.skip aD (by simp))];rfl
  refine⟨n,rJ ws s,?_,by simp only[length_cons,length_nil];omega,l1,l2,[nd],l3,λvs hv=>⟨zq0 ⟨hS.up hv,l4⟩,trivial⟩⟩;rw[vz F8 (Rk k9.skip aD (by simp)),ec]
section
variable {f b:List ByteArray} {k:Nat}
theorem LN:(Ls [] false (bM f (aD::fE::b))).1=(Ls [] false (bM f b)).1/\Qq [] (bM f (aD::fE::b))=Qq [] (bM f b):=by
 have EF:aX ee a6=false:=bj (aq (by simp[ee,a6]));have hse:aX fE a6=false:=bj (aq (by simp[fE,a6]));have e1:bM f b=(dR::(f++[ee]))++(b++[gB]):=by unfold bM;simp
 have e2:bM f (aD::fE::b)=(dR::(f++[ee]))++(aD::fE::(b++[gB])):=by unfold bM;simp
 have hA:(Ls [] false (dR::(f++[ee]))).2=false:=by
  rw[show dR::(f++[ee])=(dR::f)++[ee] by simp,re];exact EF
 have ad:∀(z:List ByteArray) (x:ByteArray),eC false z x=z:=λz x=>by unfold eC;rw[if_neg (by simp)]
 have l1:aK aD=false:=rfl;have l2:aK fE=false:=rfl;have u1:k8 aD=false:=rfl;have u2:k8 fE=false:=rfl;rw[e1,e2,re,re (dR::(f++[ee])),hA,uy,uy (dR::(f++[ee]))];generalize (Ls [] false (dR::(f++[ee]))).1=z;generalize Qq [] (dR::(f++[ee]))=y;constructor
 .show(Ls (eC (aK fE&&!aX aD a6) (eC (aK aD&&!false) z aD) fE) (aX fE a6) (b++[gB])).1=_;rw[l1,l2,hse,Bool.false_and,Bool.false_and,ad,ad]
 .show Qq (eC (k8 fE) (eC (k8 aD) y aD) fE) (b++[gB])=_;rw[u1,u2,ad,ad]
theorem ahf{vs:List UInt8}(hn:vs.Nodup){j:Nat}{a b:Nd}{i:pE}(h:NI vs j a i)(h':NI vs (j+1) b (k7 1 i)):b.op=a.op/\(∀f,cj b f=cj a f)/\b.nx=a.nx+1/\(a.op=7\/a.op=8\/a.op=9->b.ot=a.ot+1):=by
 rcases h with⟨a1,a2⟩|⟨a1,a2,a3⟩|⟨a1,a2,a3⟩ <;> rcases h' with⟨b1,b2⟩|⟨b1,b2,b3⟩|⟨b1,b2,b3⟩
 .obtain⟨h1,h2,h3⟩:=ahw hn a1 (show SI vs b i from b1);exact⟨h1,h2,by rw[a2,b2],λht=>absurd ht h3⟩
 .exact(JF a1 (zq0 b1.1)).elim
 .exact(JF a1 (zq1 b1)).elim
 .exact(JF (show SI vs b i from b1) (zq0 a1.1)).elim
 .obtain⟨h1,h2⟩:=ahy hn a1 (show TI vs b i from b1);exact⟨h1,h2,by rw[a2,b2],λ_=>by rw[a3,b3];rfl⟩
 .exact(dne a1.1 b1 (by simp[rx,Zy])).elim
 .exact(JF (show SI vs b i from b1) (zq1 a1)).elim
 .exact(dne (show i.op=rx from b1.1) a1 (by simp[rx,Zy])).elim
 .exact⟨by rw[a2,b2],vE (by rw[a2,b2]) (λ_ _ _ h=>absurd a2 h) (λho=>by omega) (λho=>by omega),by rw[a3,b3];rfl,λht=>by omega⟩
theorem Vt{vs:List UInt8}{j:Nat}{a:Nd}(h:NI vs j a skI):a.op=6/\a.nx=j+1:=by
 have hd:∀{x:ByteArray},aD=x->aD.data.toList=x.data.toList:=λe=>by rw[<-e]
 rcases h with⟨h1,h2⟩|⟨h1,-⟩|⟨h1,-⟩
 .rcases h1 with⟨a1,-⟩|⟨a1,-⟩|⟨a1,-⟩|⟨a1,-⟩|⟨a1,-⟩|⟨a1,-⟩|⟨-,a2⟩
  .have:=hd a1;simp[aD,cC]at this
  .have:=hd a1;simp[aD,yU]at this
  .have:=hd a1;simp[aD,lB]at this
  .have:=hd a1;simp[aD,zt]at this
  .have:=hd a1;simp[aD,sK]at this
  .have:=hd a1;simp[aD,fL]at this
  .exact⟨a2,h2⟩
 .have:=hd h1.1;simp[aD,rx]at this
 .have:=hd h1;simp[aD,Zy]at this
theorem zM(hf:oK f)(hb:iB b k):yH (fy (bM f b) bt).nodes (fy (bM f (aD::fE::b)) bt).nodes k/\(fy (bM f (aD::fE::b)) bt).vars=(fy (bM f b) bt).vars/\(fy (bM f (aD::fE::b)) bt).hid=(fy (bM f b) bt).hid/\(fy (bM f (aD::fE::b)) bt).failed=false:=by
 obtain⟨T,hT,hB⟩:=Tz hb;have hB:Wt b T:=hB;have C1:Wt (aD::fE::b) (skI::T.map (k7 1)):=Np.app hB (Ty hb);obtain⟨N,n1,n2,n3⟩:=zz hf hB (ws:=bM f b) rfl;obtain⟨M,m1,m2,m3⟩:=zz hf C1 (ws:=bM f (aD::fE::b)) rfl;obtain⟨v1,u1⟩:=DX n3;obtain⟨v2,u2⟩:=DX m3;obtain⟨s1,s2⟩:=LN (f:=f) (b:=b);have hV:(fy (bM f (aD::fE::b)) bt).vars=(fy (bM f b) bt).vars:=uz (v2.trans (s1.trans v1.symm));have hH:(fy (bM f (aD::fE::b)) bt).hid=(fy (bM f b) bt).hid:=uz (u2.trans (s2.trans u1.symm));have dF:(fy (bM f b) bt).vars.Nodup:=(aaW (ws:=bM f b)).nv;rw[hV]at m2;obtain⟨V,hVe⟩:∃V,V=(fy (bM f b) bt).vars:=⟨_,rfl⟩;rw[<-hVe]at n2 m2 dF;have e0:∀l:List pE,l.map (k7 0)=l:=λl=>by
  conv=>rhs;rw[<-map_id l]
  apply map_congr_left;intro i _;rfl
 rw[e0]at n2 m2;have Me:N.length=k:=by rw[n2.len,hT]
 have Ss:M.length=k+1:=by rw[m2.len];simp[hT]
 refine⟨⟨by rw[n1];simp[Me],by rw[m1];simp[Ss],?_,λi hi=>?_,?_,?_⟩,hV,hH,m3⟩
 .rw[m1,r7 (by omega)];have:=m2.at (j:=0) (by simp);rw[Nat.zero_add]at this;exact Vt this
 .rw[n1,m1,r7 (by omega),r7 (by omega)];have h1:=n2.at (j:=i) (by omega);have h2:=m2.at (j:=i+1) (by simp;omega);rw[Nat.zero_add]at h1 h2;rw[getElem_cons_succ,getElem_map]at h2;exact ahf dF h1 h2
 .rw[n1,<-Me,zd];rfl
 .rw[m1,<-Ss,zd];rfl
theorem Rn(hf:oK f)(hb:iB b k)(hA:SU (bM f b))(Ue:SU (bM f (aD::fE::b))):(fy (bM f (aD::fE::b)) bt).nodes.length=(fy (bM f b) bt).nodes.length+1/\((vp (bM f b)).vd≠2->(vp (bM f (aD::fE::b))).vd≠2->(vp (bM f (aD::fE::b))).al=BQ 1 (vp (bM f b)).al/\(vp (bM f (aD::fE::b))).vd=(vp (bM f b)).vd):=by
 obtain⟨h1,h2,-,-⟩:=zM hf hb;refine⟨by rw[h1.l,h1.l'],λhv AJ=>?_⟩;have alT:bW (mC (bM f (aD::fE::b)) bt)=bW (mC (bM f b) bt):=QM hf;have hN:Nf (rD (fy (bM f b) bt).nodes (fy (bM f b) bt).vars.length (mC (bM f b) bt)):=⟨hA.ok,by
  cases h:(rD (fy (bM f b) bt).nodes (fy (bM f b) bt).vars.length (mC (bM f b) bt)).fu with
  |false=>rfl
  |true=>exact absurd (by unfold vp ya Cy;rw[if_pos h]) hv⟩
 have C3:Nf (rD (fy (bM f (aD::fE::b)) bt).nodes (fy (bM f (aD::fE::b)) bt).vars.length (mC (bM f (aD::fE::b)) bt)):=⟨Ue.ok,by
  cases h:(rD (fy (bM f (aD::fE::b)) bt).nodes (fy (bM f (aD::fE::b)) bt).vars.length (mC (bM f (aD::fE::b)) bt)).fu with
  |false=>rfl
  |true=>exact absurd (by unfold vp ya Cy;rw[if_pos h]) AJ⟩
 rw[h2]at C3;have:=abW h1 alT hA.n Ue.n hA.a Ue.a hN C3;unfold vp;rw[h2];exact this
end
theorem aeA:Brc 59:=⟨by decide,by decide,by decide,by decide,by decide,by decide,by decide⟩
def JG:List UInt8:=[115,107,105,112,59]
theorem TH{l A B W:List UInt8}{f b:List ByteArray}{k:Nat}(h:adx l A B W f b)(hf:oK f)(hb:iB b k)(h0:mP l=0)(hl:qe l=bM f b):
  qe (A++123::(JG++(B++125::W)))=bM f (aD::fE::b)/\((A++123::(JG++(B++125::W))).length<=240->mP (A++123::(JG++(B++125::W)))=0):=by
 obtain⟨LA,hA,eA⟩:=Option.map_eq_some_iff.1 h.sA;obtain⟨-,hs,-,k4,k5⟩:=ro h0;obtain⟨L,hL⟩:=Option.ne_none_iff_exists'.1 hs;have hLw:L.map bA=bM f b:=by rw[<-sH hL];exact hl
 have Dv:=qh No A.length A (B++125::W) (zq4 _);rw[<-h.e,hL,hA]at Dv;obtain⟨LR,hR,hLR⟩:∃LR,jc (B++125::W)=some LR/\L=LA++[123]::LR:=by
  cases hR:jc (B++125::W) with
  |none=>rw[hR]at Dv;cases Dv
  |some LR=>rw[hR]at Dv;exact⟨LR,rfl,by injection Dv⟩
 have hRw:LR.map bA=b++[gB]:=by
  have h1:LA.map bA++ee::LR.map bA=(dR::f)++ee::(b++[gB]):=by
   have h2:=hLw;rw[hLR,map_append,map_cons]at h2;exact h2
  rw[eA]at h1;have h3:=append_cancel_left h1;injection h3
 have SJ:aR [115,107,105,112]=4:=by decide
 have SH:jc [115,107,105,112]=some [[115,107,105,112]]:=by
  rw[lH 115 [107,105,112] (by decide) (by rw[SJ];decide),SJ];show(jc []).map _=_;rw[BT];rfl
 have wb:jc (A++123::(JG++(B++125::W)))=some (LA++[123]::([115,107,105,112]::[59]::LR)):=by
  rw[qh No A.length A _ (zq4 _),hA];have h1:=qh aeA 4 [115,107,105,112] (B++125::W) (by simp);rw[SH,hR]at h1;have h2:JG++(B++125::W)=[115,107,105,112]++59::(B++125::W):=rfl;rw[h2,h1];rfl
 have hw:qe (A++123::(JG++(B++125::W)))=bM f (aD::fE::b):=by
  rw[sH wb,map_append,map_cons,map_cons,map_cons,eA,hRw];rfl
 refine⟨hw,λm8=>?_⟩;obtain⟨-,hV,hH,m3⟩:=zM hf hb;have hS:uI l=fy (bM f b) bt:=by unfold uI;rw[hl]
 have bY:uI (A++123::(JG++(B++125::W)))=fy (bM f (aD::fE::b)) bt:=by unfold uI;rw[hw]
 rw[hS]at k4 k5;exact QZ (by omega) (by rw[wb];simp) (by rw[bY];exact m3) (by rw[bY,hV,hH];omega)
