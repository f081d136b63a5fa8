import Derived.Test.YtciihepbeacppaaGreatM22
set_option maxRecDepth 100000
set_option maxHeartbeats 0
namespace Go.Proofs.YtciihepbeacppaaGreat
open Tryz Go.RowKit List World Below
set_option linter.unusedVariables false
section
variable {c:Cd} {N n:Nat} {f:CF} {s:Sr}
theorem sZ(b:Bool)(hs:eM N s):m6 s (fuS b s)/\eM N (fuS b s)/\(Sf (fuS b s)->b=false):=by
 refine⟨⟨λh=>?_,λ_ _ h=>h,λ_ _ _ h=>h⟩,⟨hs.kn,hs.wr,hs.rw,hs.td⟩,λh=>?_⟩
 .show(s.fu||b)=true;rw[h];rfl
 .have h1:(s.fu||b)=false:=h.1;rw[Bool.or_eq_false_iff]at h1;exact h1.2
theorem zg{fuel:Nat}(hN:c.nds.length=N)(hO:sE c.nds)(hn:n<N)(hf:Td f)(hs:eM N s):m6 s (mf c fuel n f s)/\eM N (mf c fuel n f s)/\(Sf (mf c fuel n f s)->YO c (mf c fuel n f s) n f):=by
 obtain⟨hv,ha⟩:=hO.v n;obtain⟨t1,t2⟩:=lB hv ha hf;have iN:n<c.nds.length:=by rw[hN];exact hn
 have bV:(cN (c.nds.getD n aK) f).nx≠[]->(c.nds.getD n aK).nx<N:=λh=>by rw[<-hN];exact hO.nx n iN (nI h)
 have vn:(cN (c.nds.getD n aK) f).ot≠[]->(c.nds.getD n aK).ot<N:=λh=>by rw[<-hN];exact hO.ot n iN (ky h)
 unfold mf;simp only;obtain⟨a1,a2,a3⟩:=dC (b:=decide ((c.nds.getD n aK).op=0)&&!decide (fA f=[])) (k:=2) hs hn (by omega);obtain⟨b1,b2,b3⟩:=dC (b:=(cN (c.nds.getD n aK) f).nu) (k:=3) a2 hn (by omega);obtain⟨d1,d2,d3⟩:=dC (b:=(cN (c.nds.getD n aK) f).da) (k:=4) b2 hn (by omega);obtain⟨e1,e2,e3⟩:=sZ (cN (c.nds.getD n aK) f).fu d2;obtain⟨g1,g2,g3⟩:=iE (c:=c) (fuel:=fuel) (b:=(c.nds.getD n aK).nx) hn (cN (c.nds.getD n aK) f).nx bV t1 e2;obtain⟨k1,k2,k3⟩:=iE (c:=c) (fuel:=fuel) (b:=(c.nds.getD n aK).ot) hn (cN (c.nds.getD n aK) f).ot vn t2 g2;have acx:=g1.trans k1;refine⟨a1.trans (b1.trans (d1.trans (e1.trans acx))),k2,λhS=>?_⟩;have S3:=k1.sf hS;have S2:=g1.sf S3;have Sd:=e1.sf S2;have Sb:=d1.sf Sd;have Sa:=b1.sf Sb;refine⟨b3 (by omega) Sb,d3 (by omega) Sd,e3 S2,λh0=>?_,λg hg P hc O1=>k1.kn _ _ hc (g3 S3 g hg P hc O1),λg hg P hc O1=>k3 hS g hg P hc O1⟩;have:=a3 (by omega) Sa;rw[decide_eq_true h0,Bool.true_and]at this;simpa using this
def JG(c:Cd)(s:Sr)(n0:Nat)(R:List CF):Prop:=∀n,∀e∈bf s n,e.d=true->YO c s n e.f\/(n=n0/\e.f∈R)
def jI(s s':Sr):Prop:=∀n,∀e∈bf s' n,e.d=true->e∈bf s n
theorem jI.refl(s:Sr):jI s s:=λ_ _ h _=>h
theorem jI.trans{a b c:Sr}(h:jI a b)(h':jI b c):jI a c:=λn e he hd=>h n e (h' n e he hd) hd
theorem A9{n:Nat}{f:CF}{s:Sr}(hn:n<s.kn.length):jI s (bq c n f s):=by
 unfold bq;split
 .exact jI.refl s
 .intro m e he hd;have hkA:bf (ru c (oZ n (cG c n f) (nS c s (2*(bf s n).length)))) m=if n=m then (bf s n).filter (λe=>!Cm e.f (cG c n f))++[⟨cG c n f,false⟩] else bf s m:=lT hn m
  rw[hkA]at he;by_cases e0:n=m
  .subst e0;rw[if_pos rfl]at he;rcases mem_append.1 he with he|he
   .exact(mem_filter.1 he).1
   .rw[mem_singleton.1 he]at hd;cases hd
  .rw[if_neg e0]at he;exact he
theorem AY{n:Nat}:∀(l:List CF) {s:Sr},cy l->eM N s->n<N->jI s (l.foldl (λs g=>bq c n g s) s)
 |[],s,_,_,_=>jI.refl s
 |g::l,s,hl,h,hn=>by
  rw[foldl_cons];obtain⟨-,h2,-⟩:=mz (c:=c) (hl g (by simp)) h hn;exact(A9 (by rw[h.kn];exact hn)).trans (AY l (λx hx=>hl x (by simp[hx])) h2 hn)
theorem PK{fuel a b:Nat}(hf:Td f)(hs:eM N s)(ha:a<N)(hb:b<N):jI s (cZ c fuel a b f s):=by
 unfold cZ;split
 .exact A9 (by rw[hs.kn];exact hb)
 .simp only;obtain⟨-,g2⟩:=zp hs ha (k:=2) (by omega);obtain⟨k1,k2,k3⟩:=lD (c:=c) fuel 0 (res:=[]) (r:=([f],gV a 2 s)) (λg hg=>by rw[mem_singleton.1 hg];exact hf) (λg hg=>by simp at hg);have hS:eM N (fU c fuel 0 [] ([f],gV a 2 s)).2:=⟨by rw[k2];exact g2.kn,by rw[k3];exact g2.wr,λr hr=>by rw[k3]at hr;exact g2.rw r hr,λl hl=>by rw[k2]at hl;exact g2.td l hl⟩;refine jI.trans (b:=(fU c fuel 0 [] ([f],gV a 2 s)).2) (λm e he _=>?_) (AY _ k1 hS hb);unfold bf at he ⊢;rw[k2]at he;exact he
theorem xF{fuel a b:Nat}(ha:a<N):∀(l:List CF) {s:Sr},(l≠[]->b<N)->cy l->eM N s->jI s (l.foldl (λs g=>cZ c fuel a b g s) s)
 |[],s,_,_,_=>jI.refl s
 |g::l,s,hb,hl,h=>by
  rw[foldl_cons];have hbN:=hb (by simp);obtain⟨-,h2,-⟩:=nF (c:=c) (fuel:=fuel) (hl g (by simp)) h ha hbN;exact(PK (hl g (by simp)) h ha hbN).trans (xF ha l (λ_=>hbN) (λx hx=>hl x (by simp[hx])) h2)
theorem zo(b:Bool)(n k:Nat)(s:Sr):jI s (wrI b n k s):=λm e he _=>by
 unfold bf at he ⊢;rw[n9]at he;exact he
theorem So{fuel:Nat}(hN:c.nds.length=N)(hO:sE c.nds)(hn:n<N)(hf:Td f)(hs:eM N s):jI s (mf c fuel n f s):=by
 obtain⟨hv,ha⟩:=hO.v n;obtain⟨t1,t2⟩:=lB hv ha hf;have iN:n<c.nds.length:=by rw[hN];exact hn
 have bV:(cN (c.nds.getD n aK) f).nx≠[]->(c.nds.getD n aK).nx<N:=λh=>by rw[<-hN];exact hO.nx n iN (nI h)
 have vn:(cN (c.nds.getD n aK) f).ot≠[]->(c.nds.getD n aK).ot<N:=λh=>by rw[<-hN];exact hO.ot n iN (ky h)
 unfold mf;simp only;obtain⟨-,a2,-⟩:=dC (b:=decide ((c.nds.getD n aK).op=0)&&!decide (fA f=[])) (k:=2) hs hn (by omega);obtain⟨-,b2,-⟩:=dC (b:=(cN (c.nds.getD n aK) f).nu) (k:=3) a2 hn (by omega);obtain⟨-,d2,-⟩:=dC (b:=(cN (c.nds.getD n aK) f).da) (k:=4) b2 hn (by omega);obtain⟨-,e2,-⟩:=sZ (cN (c.nds.getD n aK) f).fu d2;obtain⟨-,g2,-⟩:=iE (c:=c) (fuel:=fuel) (b:=(c.nds.getD n aK).nx) hn (cN (c.nds.getD n aK) f).nx bV t1 e2;refine jI.trans ?_ (xF hn _ vn t2 g2);refine jI.trans ?_ (xF hn _ bV t1 e2);refine jI.trans (b:=wrI (cN (c.nds.getD n aK) f).da n 4 (wrI (cN (c.nds.getD n aK) f).nu n 3 (wrI (decide ((c.nds.getD n aK).op=0)&&!decide (fA f=[])) n 2 s))) ?_ (λm e he _=>he);exact(zo _ _ _ _).trans ((zo _ _ _ _).trans (zo _ _ _ _))
theorem JG.old{s':Sr}{n0:Nat}{R:List CF}(h:JG c s n0 R)(ho:jI s s')(hl:m6 s s'):JG c s' n0 R:=λn e he hd=>by
 rcases h n e (ho n e he hd) hd with h1|h1
 .exact zq0 (h1.mono hl)
 .exact zq1 h1
theorem qB{fuel:Nat}(hN:c.nds.length=N)(hO:sE c.nds)(hn:n<N):∀(l:List CF) {s:Sr},cy l->eM N s->m6 s (mg c fuel n l s)/\eM N (mg c fuel n l s)/\(Sf (mg c fuel n l s)->JG c s n l->JG c (mg c fuel n l s) n [])
 |[],s,_,h=>⟨m6.refl s,h,λ_ h=>h⟩
 |f::r,s,hl,h=>by
  unfold mg;split
  .rename_i eJ;exact⟨m6.refl s,h,λhS=>by rw[hS.1]at eJ;cases eJ⟩
  .obtain⟨h1,h2,h3⟩:=zg (fuel:=fuel) hN hO hn (hl f (by simp)) h;obtain⟨h4,h5,h6⟩:=qB hN hO hn r (λx hx=>hl x (by simp[hx])) h2;refine⟨h1.trans h4,h5,λhS hJ=>h6 hS ?_⟩;intro m e he hd;rcases hJ.old (So hN hO hn (hl f (by simp)) h) h1 m e he hd with g|⟨g1,g2⟩
   .exact zq0 g
   .rcases mem_cons.1 g2 with g2|g2
    .left;rw[g1,g2];exact h3 (h4.sf hS)
    .exact zq1 ⟨g1,g2⟩
theorem JG.nil{n0 n1:Nat}(h:JG c s n0 []):JG c s n1 []:=λn e he hd=>by
 rcases h n e he hd with g|⟨-,g⟩
 .exact zq0 g
 .simp at g
theorem zl{fuel:Nat}(hN:c.nds.length=N)(hO:sE c.nds)(hn:n<N)(h:eM N s):m6 s (mZ c fuel n s)/\eM N (mZ c fuel n s)/\(Sf (mZ c fuel n s)->JG c s n []->JG c (mZ c fuel n s) n []):=by
 have f7:n<s.kn.length:=by rw[h.kn];exact hn
 obtain⟨s0,E8⟩:∃s0:Sr,s0={ s with kn:=s.kn.set n ((bf s n).map (λe:fS=>(⟨e.f,true⟩:fS))) }:=⟨_,rfl⟩;have hkA:∀m,bf s0 m=if n=m then (bf s n).map (λe=>⟨e.f,true⟩) else bf s m:=λm=>by rw[E8];exact lT f7 m
 have hL:m6 s s0:=by
  refine⟨λh=>by rw[E8];exact h,λm k h=>by rw[E8];exact h,λm P _ hk=>?_⟩;obtain⟨e,he,hf⟩:=hk;unfold JH;rw[hkA];by_cases e0:n=m
  .subst e0;rw[if_pos rfl];exact⟨⟨e.f,true⟩,mem_map.2 ⟨e,he,rfl⟩,hf⟩
  .rw[if_neg e0];exact⟨e,he,hf⟩
 have V5:eM N s0:=by
  rw[E8];refine⟨by show(s.kn.set n _).length=N;rw[length_set];exact h.kn,h.wr,h.rw,λl hl e he=>?_⟩;rcases mem_or_eq_of_mem_set (show l∈s.kn.set n _ from hl) with h1|rfl
  .exact h.td l h1 e he
  .obtain⟨x,hx,rfl⟩:=mem_map.1 he;exact h.td.at n x hx
 have lM:cy (lH (bf s n)):=λg hg=>by
  obtain⟨e,he,rfl⟩:=mem_map.1 hg;exact h.td.at n e (mem_filter.1 he).1
 obtain⟨h1,h2,h3⟩:=qB (fuel:=fuel) hN hO hn (lH (bf s n)) lM V5;have e1:mZ c fuel n s=mg c fuel n (lH (bf s n)) s0:=by rw[E8];rfl
 rw[e1];refine⟨hL.trans h1,h2,λhS hJ=>h3 hS ?_⟩;intro m e he hd;rw[hkA]at he;by_cases e0:n=m
 .subst e0;rw[if_pos rfl]at he;obtain⟨x,hx,rfl⟩:=mem_map.1 he;cases hxd:x.d with
  |true =>
   rcases hJ n x hx hxd with g|⟨-,g⟩
   .exact zq0 (g.mono hL)
   .simp at g
  |false=>exact zq1 ⟨rfl,mem_map.2 ⟨x,mem_filter.2 ⟨hx,by simp[hxd]⟩,rfl⟩⟩
 .rw[if_neg e0]at he;rcases hJ m e he hd with g|⟨-,g⟩
  .exact zq0 (g.mono hL)
  .simp at g
theorem kL{fuel:Nat}(hN:c.nds.length=N)(hO:sE c.nds):∀(k:Nat) {s:Sr},eM N s->m6 s (jY c fuel k s)/\eM N (jY c fuel k s)/\((jY c fuel k s).ok=true->Sf (jY c fuel k s)->JG c s 0 []->∀n,∀e∈bf (jY c fuel k s) n,YO c (jY c fuel k s) n e.f)
 |0,s,h=>⟨⟨λh=>h,λ_ _ h=>h,λ_ _ _ h=>h⟩,⟨h.kn,h.wr,h.rw,h.td⟩,λbE=>by cases bE⟩
 |k+1,s,h=>by
  unfold jY;split
  .rename_i hp;refine⟨m6.refl s,h,λ_ _ hJ n e he=>?_⟩;have hd:e.d=true:=by
    unfold rq at hp;rw[findIdx?_eq_none_iff]at hp;unfold bf at he;obtain⟨y,hy,hey⟩:∃y∈s.kn,e∈y:=by
     rw[getD_eq_getElem?_getD]at he;cases hg:s.kn[n]? with
     |none=>rw[hg]at he;simp at he
     |some y=>rw[hg]at he;exact⟨y,mem_of_getElem? hg,he⟩
    have:=hp y hy;rw[any_eq_false]at this;have:=this e hey;simpa using this
   rcases hJ n e he hd with g|⟨-,g⟩
   .exact g
   .simp at g
  .rename_i n hp;have hn:n<N:=by
    unfold rq at hp;obtain⟨h1,-⟩:=findIdx?_eq_some_iff_getElem.1 hp;rw[<-h.kn];exact h1
   split
   .rename_i eJ;exact⟨m6.refl s,h,λ_ hS=>by rw[hS.1]at eJ;cases eJ⟩
   .obtain⟨h1,h2,h3⟩:=zl (fuel:=fuel) hN hO hn h;obtain⟨h4,h5,h6⟩:=kL (fuel:=fuel) hN hO k h2;exact⟨h1.trans h4,h5,λbE hS hJ=>h6 bE hS (h3 (h4.sf hS) hJ.nil).nil⟩
theorem Gr(nds:List Nd):eM nds.length (md nds):=by
 refine⟨by simp[md],by simp[md],λr hr=>?_,λl hl e he=>?_⟩
 .have:=eq_of_mem_replicate (show r∈replicate nds.length (replicate 5 false) from hr);rw[this];simp
 .have:=eq_of_mem_replicate (show l∈replicate nds.length ([]:List fS) from hl);rw[this]at he;simp at he
theorem NX(nds:List Nd)(n:Nat):bf (md nds) n=[]:=by
 unfold bf md;rw[getD_eq_getElem?_getD,getElem?_replicate];split <;> rfl
end
def IsL(B:Nat)(w:World)(X:Nat)(ws:List ByteArray)(s:PS)(al:List cf):Prop :=
 ∃Q,w.heap[X]?=some (.cells #[.pointer (some ⟨Q,0,none⟩),.pointer none] 88 (0,0))/\B<=X/\UV B w Q ws s al
theorem UV.alloc{B:Nat}{w:World}{Q:Nat}{ws:List ByteArray}{s:PS}{al:List cf}(h:UV B w Q ws s al)(o:Obj):UV B (w.alloc o) Q ws s al:=by
 obtain⟨vv,pv,nv,h0,hB,h1,h2,h3⟩:=h;exact⟨vv,pv,nv,by rw[heap_alloc _ _ _ (Array.getElem?_eq_some_iff.1 h0).1];exact h0,hB,h1.alloc o,h2.alloc o,h3.alloc o⟩
theorem Bc(s:ByteArray)(w:World)(hs:s.size<=20000):
  Calls prog 25 #[.string s] w λe w'=>Below w.heap.size w w' /\
   ((lx s.data.toList≠0/\e=.returned (.tuple #[.pointer none,.int .i64 (lx s.data.toList)])) \/
    (lx s.data.toList=0/\∃X,e=.returned (.tuple #[.pointer (some ⟨X,0,none⟩),.int .i64 0])/\IsL w.heap.size w' X (nY s.data.toList) (r8 s.data.toList) (gR (nY s.data.toList) aJ))):=by
 go_enter func25,ntmps25;go_wp2_with fail
 refine(NF s w hs).mono ?_;rintro e w1 ⟨cn,(⟨aY,rfl⟩|⟨h0,Q,rfl,hc⟩)⟩
 .have Wk:(((lx s.data.toList:Nat):Int) != 0)=true:=by rw[bne_iff_ne];omega
  have HN:=ab aY;clear aY;go_wp2_with fail
  go_ret2;exact⟨cn,zq0 ⟨uh HN,rfl⟩⟩
 .have H0:=ab h0;have HC:=ab hc;clear h0 hc;go_wp2_with fail
  go_ret2;have hz:=cn.size;exact⟨cn.alloc hz _,zq1 ⟨uh H0,w1.heap.size,rfl,Q,heap_alloc_new w1 _,hz,(uh HC).alloc _⟩⟩
def dq:ByteArray:=⟨#[112,114,101]⟩
def Rd(ws:List ByteArray)(s:PS)(r:List ByteArray):Prop:=s.failed=false/\ws.drop s.pos=r/\s.pos<=ws.length
def Y5(ws:List ByteArray)(s:PS):Option (List ByteArray)->Prop
 |none=>s.failed=true
 |some r=>Rd ws s r
structure ko(ws:List ByteArray)(F:PS->PS)(f:List ByteArray->Option (List ByteArray)):Prop where
 ok:∀s r,Rd ws s r->Y5 ws (F s) (f r)
 bad:∀s,s.failed=true->(F s).failed=true
 nd:∀s,(F s).nodes=s.nodes
def fs(k:ByteArray):List ByteArray->Bool
 |[]=>false
 |x::_=>aV x k
def ki(k:ByteArray):List ByteArray->Option (List ByteArray)
 |[]=>none
 |x::r=>if aV x k then some r else none
theorem wT{ws:List ByteArray}{s:PS}{x:ByteArray}{r:List ByteArray}(h:Rd ws s (x::r)):pk ws s=x:=by
 unfold pk;rw[if_neg (by simp[h.1])];have:ws[s.pos]?=some x:=by rw[<-head?_drop,h.2.1];rfl
 rw[this];rfl
theorem DG{ws:List ByteArray}{s:PS}(h:Rd ws s []):pk ws s=⟨#[]⟩:=by
 apply DF;have:=congrArg List.length h.2.1;simp only[length_drop,length_nil]at this;omega
theorem cM{ws:List ByteArray}{s:PS}{x:ByteArray}{r:List ByteArray}(h:Rd ws s (x::r)):Rd ws s.adv r :=
 ⟨h.1,by show ws.drop (s.pos+1)=r;rw[<-drop_drop,h.2.1];rfl,by
  have:=congrArg List.length h.2.1;simp only[length_drop,length_cons]at this;show s.pos+1<=ws.length;omega⟩
theorem Th:(⟨#[]⟩:ByteArray).toList=[]:=ByteArray.toList_eq _
theorem cV{ws:List ByteArray}{s:PS}{k:ByteArray}{r:List ByteArray}(hk:k.toList≠[])(h:Rd ws s r):bH ws k s=fs k r:=by
 cases r with
 |nil=>unfold bH;rw[DG h,Th];cases yd:k.toList with
  |nil=>exact absurd yd hk
  |cons _ _=>rfl
 |cons x r=>unfold bH;rw[wT h];rfl
theorem ji{ws:List ByteArray}{s:PS}{k:ByteArray}(hk:k.toList≠[])(h:s.failed=true):bH ws k s=false:=by
 unfold bH;rw[jX h,Th];cases yd:k.toList with
  |nil=>exact absurd yd hk
  |cons _ _=>rfl
theorem ko.comp{ws:List ByteArray}{F G:PS->PS}{f g:List ByteArray->Option (List ByteArray)}(hF:ko ws F f)(hG:ko ws G g):ko ws (λs=>G (F s)) (λr=>(f r).bind g):=by
 refine⟨λs r h=>?_,λs h=>hG.bad _ (hF.bad _ h),λs=>(hG.nd _).trans (hF.nd s)⟩;have:=hF.ok s r h;cases hf:f r with
 |none=>rw[hf]at this;exact hG.bad _ this
 |some r'=>rw[hf]at this;exact hG.ok _ _ this
theorem ko.ite{ws:List ByteArray}{A B:PS->PS}{a b:List ByteArray->Option (List ByteArray)}{k:ByteArray}(hk:k.toList≠[])(hA:∀s x r,Rd ws s (x::r)->Y5 ws (A s) (a (x::r)))(hN:∀s,(A s).nodes=s.nodes)(hB:ko ws B b):ko ws (λs=>if bH ws k s then A s else B s) (λr=>if fs k r then a r else b r):=by
 refine⟨λs r h=>?_,λs h=>?_,λs=>by split;exact hN s;exact hB.nd s⟩
 .rw[cV hk h];cases r with
  |nil=>simp only[fs,Bool.false_eq_true,if_false];exact hB.ok _ _ h
  |cons x r =>
   split
   .exact hA _ _ _ h
   .exact hB.ok _ _ h
 .rw[ji hk h];exact hB.bad _ h
theorem cP{ws:List ByteArray}{k:ByteArray}(hk:k.toList≠[]):ko ws (aF ws k) (ki k):=by
 refine⟨λs r h=>?_,λs h=>?_,λs=>by unfold aF;split <;> rfl⟩
 .unfold aF;rw[cV hk h];cases r with
  |nil=>simp[fs,ki,Y5,PS.fail]
  |cons x r =>
   show Y5 ws (if aV x k=true then s.adv else s.fail) (if aV x k=true then some r else none);by_cases hx:aV x k=true
   .rw[if_pos hx,if_pos hx];exact cM h
   .rw[if_neg hx,if_neg hx];rfl
 .unfold aF;rw[ji hk h];simp[PS.fail]
def zL:List ByteArray->Option (List ByteArray)
 |[]=>none
 |x::r=>if aI x then some r else none
theorem FH:aI ⟨#[]⟩=false:=rfl
theorem Od:jH ⟨#[]⟩=false:=rfl
theorem tS{ws:List ByteArray}:ko ws (bz ws) zL:=by
 refine⟨λs r h=>?_,λs h=>?_,λs=>by unfold bz;split <;> rfl⟩
 .unfold bz;cases r with
  |nil=>rw[DG h,FH];simp[zL,Y5,PS.fail]
  |cons x r =>
   rw[wT h];simp only[zL];split
   .exact⟨h.1,(cM h).2⟩
   .simp[Y5,PS.fail]
 .unfold bz;rw[jX h,FH];simp[PS.fail]
theorem tB:jg.toList≠[]:=by rw[ByteArray.toList_eq];simp[jg]
theorem nj:fQ.toList≠[]:=by rw[ByteArray.toList_eq];simp[fQ]
theorem AU:qR.toList≠[]:=by rw[ByteArray.toList_eq];simp[qR]
theorem ads:T5.toList≠[]:=by rw[ByteArray.toList_eq];simp[T5]
theorem rS:fh.toList≠[]:=by rw[ByteArray.toList_eq];simp[fh]
theorem tA:lR.toList≠[]:=by rw[ByteArray.toList_eq];simp[lR]
theorem oT:gY.toList≠[]:=by rw[ByteArray.toList_eq];simp[gY]
theorem yw:nP.toList≠[]:=by rw[ByteArray.toList_eq];simp[nP]
theorem MB:Fk.toList≠[]:=by rw[ByteArray.toList_eq];simp[Fk]
theorem mw:cY.toList≠[]:=by rw[ByteArray.toList_eq];simp[cY]
def jC(r:List ByteArray):Option (List ByteArray):=if fs jg r then some r.tail else zL r
theorem fO{ws:List ByteArray}:ko ws (bU ws) jC:=ko.ite tB (λ_ _ _ h=>cM h) (λ_=>rfl) tS
def II:List ByteArray->Option (List ByteArray)
 |[]=>none
 |x::r=>if jH x then some r else jC (x::r)
theorem qw{ws:List ByteArray}:ko ws (eu ws) II:=by
 refine⟨λs r h=>?_,λs h=>?_,λs=>by unfold eu;split;rfl;exact fO.nd s⟩
 .unfold eu;cases r with
  |nil=>rw[DG h,Od];exact fO.ok _ _ h
  |cons x r =>
   rw[wT h];simp only[II];cases hx:jH x with
   |true=>exact⟨h.1,(cM h).2⟩
   |false=>exact fO.ok _ _ h
 .unfold eu;rw[jX h,Od];exact fO.bad _ h
def IG(r:List ByteArray):Option (List ByteArray):=if fs fQ r then some r.tail else if fs qR r then some r.tail else ki T5 r
theorem yV{ws:List ByteArray}:ko ws (eg ws) IG:=ko.ite nj (λ_ _ _ h=>cM h) (λ_=>rfl) (ko.ite AU (λ_ _ _ h=>cM h) (λ_=>rfl) (cP ads))
def pLi(r:List ByteArray):Option (List ByteArray):=((((ki fh r).bind II).bind (ki lR)).bind II).bind (ki gY)
theorem Ni{ws:List ByteArray}:ko ws (yF ws) pLi:=((((cP rS).comp qw).comp (cP tA)).comp qw).comp (cP oT)
def nz(r:List ByteArray):Option (List ByteArray):=if fs nP r then some r.tail else if fs Fk r then pLi r.tail else ((II r).bind IG).bind II
theorem lZ{ws:List ByteArray}:ko ws (dQ ws) nz :=
 ko.ite yw (λ_ _ _ h=>cM h) (λ_=>rfl) (ko.ite MB (λ_ _ _ h=>Ni.ok _ _ (cM h)) (λs=>Ni.nd s.adv) ((qw.comp yV).comp qw))
theorem Nh{ws:List ByteArray}:ko ws (λs=>s) some:=⟨λ_ _ h=>h,λ_ h=>h,λ_=>rfl⟩
def IE:Nat->List ByteArray->Option (List ByteArray)
 |0,r=>some r
 |n+1,r=>if fs cY r then (nz r.tail).bind (IE n) else some r
theorem RN{ws:List ByteArray}(n:Nat):ko ws (λs=>(iu ws n s).2) (IE n):=by
 induction n with
 |zero=>exact Nh
 |succ n ih =>
  have e:(λs=>(iu ws (n+1) s).2)=(λs=>if bH ws cY s then (iu ws n (dQ ws s.adv)).2 else s):=by
   funext s;simp only[iu];split <;> rfl
  rw[e];exact ko.ite mw (λ_ _ _ h=>(lZ.comp ih).ok _ _ (cM h)) (λs=>(lZ.comp ih).nd s.adv) Nh
def IF(n:Nat)(r:List ByteArray):Option (List ByteArray):=(nz r).bind (IE n)
theorem yU{ws:List ByteArray}:ko ws (pP ws) (IF (ws.length+1)):=lZ.comp (RN (ws.length+1))
theorem yx:mV.toList≠[]:=by rw[ByteArray.toList_eq];simp[mV]
theorem kE:gL.toList≠[]:=by rw[ByteArray.toList_eq];simp[gL]
theorem Iu:kN.toList≠[]:=by rw[ByteArray.toList_eq];simp[kN]
theorem mu:f8.toList≠[]:=by rw[ByteArray.toList_eq];simp[f8]
theorem oV:ie.toList≠[]:=by rw[ByteArray.toList_eq];simp[ie]
theorem wI:kY.toList≠[]:=by rw[ByteArray.toList_eq];simp[kY]
theorem oX:jG.toList≠[]:=by rw[ByteArray.toList_eq];simp[jG]
theorem yy:ig.toList≠[]:=by rw[ByteArray.toList_eq];simp[ig]
theorem oW:kX.toList≠[]:=by rw[ByteArray.toList_eq];simp[kX]
theorem jQ:bQ.toList≠[]:=by rw[ByteArray.toList_eq];simp[bQ]
theorem oU:gM.toList≠[]:=by rw[ByteArray.toList_eq];simp[gM]
theorem Ds:eF.toList≠[]:=by rw[ByteArray.toList_eq];simp[eF]
def ID(r:List ByteArray):Option (List ByteArray):=if fs qR r then some r.tail else ki fQ r
def pCo(r:List ByteArray):Option (List ByteArray):=if fs cY r then some r.tail else ((zL r).bind ID).bind jC
theorem RM{ws:List ByteArray}:ko ws (v7 ws) ID:=ko.ite AU (λ_ _ _ h=>cM h) (λ_=>rfl) (cP nj)
theorem XR{ws:List ByteArray}:ko ws (q9 ws) pCo:=ko.ite mw (λ_ _ _ h=>cM h) (λ_=>rfl) ((tS.comp RM).comp fO)
def pTs(r:List ByteArray):Option (List ByteArray):=((ki fh r).bind pCo).bind (ki gY)
theorem XW{ws:List ByteArray}:ko ws (Jq ws) pTs:=((cP rS).comp XR).comp (cP oT)
def ZN(r:List ByteArray):Option (List ByteArray) :=
 if fs mV r then some r.tail else if !fs jg r&&(match jC r with|some q=>fs gL q|none=>false) then (jC r).bind (λq=>ki kN q.tail) else jC r
theorem XN{ws:List ByteArray}:ko ws (mR ws) ZN:=by
 refine ko.ite (b:=λr=>if !fs jg r&&(match jC r with|some q=>fs gL q|none=>false) then (jC r).bind (λq=>ki kN q.tail) else jC r) yx (λ_ _ _ h=>cM h) (λ_=>rfl) ⟨λs r h=>?_,λs h=>?_,λs=>?_⟩
 .have hv:=fO.ok s r h;have hk:(du ws s==1)=!fs jg r:=by
   unfold du;rw[cV tB h];cases fs jg r <;> rfl
  unfold BW;rw[hk];cases hp:jC r with
  |none =>
   rw[hp]at hv;rw[ji kE hv];simp only[Bool.and_false,Bool.false_eq_true,if_false];exact hv
  |some q =>
   rw[hp]at hv;rw[cV kE hv];by_cases hc:(!fs jg r&&fs gL q)=true
   .rw[if_pos hc,if_pos hc];cases q with
    |nil=>simp[fs]at hc
    |cons y q=>exact(cP Iu).ok _ _ (cM hv)
   .rw[if_neg hc,if_neg hc];exact hv
 .have hv:=(fO (ws:=ws)).bad s h;unfold BW;rw[ji kE hv];simp only[Bool.and_false,Bool.false_eq_true,if_false];exact hv
 .split
  .exact((cP Iu).nd _).trans (fO.nd s)
  .exact fO.nd s
def RL(r:List ByteArray):Option (List ByteArray):=if fs gL r then (((ki kN r.tail).bind (ki fQ)).bind jC) else (ki fQ r).bind ZN
theorem RP{ws:List ByteArray}:ko ws (λt=>if bH ws gL t then bU ws (xh ws t) else mR ws (aF ws fQ t)) RL :=
 ko.ite kE (λ_ _ _ h=>(((cP Iu).comp (cP nj)).comp fO).ok _ _ (cM h)) (λs=>(((cP Iu).comp (cP nj)).comp fO).nd s.adv) ((cP nj).comp XN)
def pSi(r:List ByteArray):Option (List ByteArray):=if fs f8 r then some r.tail else if fs ie r then zL r.tail else (zL r).bind RL
theorem XV{ws:List ByteArray}:ko ws (gp ws) pSi :=
 ko.ite mu (λ_ _ _ h=>cM h) (λ_=>rfl) (ko.ite oV (λ_ _ _ h=>tS.ok _ _ (cM h)) (λs=>tS.nd s.adv) (tS.comp RP))
def ags(ws:List ByteArray)(n:Nat)(s:PS):Option (List ByteArray × Nat)->Prop
 |none=>s.failed=true
 |some (q,k)=>Rd ws s q/\s.nodes.length=n+k
structure iD(ws:List ByteArray)(F:PS->PS)(f:List ByteArray->Option (List ByteArray × Nat)):Prop where
 ok:∀s r,Rd ws s r->ags ws s.nodes.length (F s) (f r)
 bad:∀s,s.failed=true->(F s).failed=true
def BG(f g:List ByteArray->Option (List ByteArray × Nat))(r:List ByteArray):Option (List ByteArray × Nat) :=
 match f r with
 |none=>none
 |some (q,k)=>match g q with
  |none=>none
  |some (p,j)=>some (p,k+j)
def n0(f:List ByteArray->Option (List ByteArray))(r:List ByteArray):Option (List ByteArray × Nat):=(f r).map (λq=>(q,0))
def n1(f:List ByteArray->Option (List ByteArray))(r:List ByteArray):Option (List ByteArray × Nat):=(f r).map (λq=>(q,1))
theorem ko.n{ws:List ByteArray}{F:PS->PS}{f:List ByteArray->Option (List ByteArray)}(h:ko ws F f):iD ws F (n0 f):=by
 refine⟨λs r hr=>?_,h.bad⟩;have:=h.ok s r hr;unfold n0;cases hf:f r with
 |none=>rw[hf]at this;exact this
 |some q=>rw[hf]at this;exact⟨this,by rw[h.nd s];rfl⟩
theorem ko.n1{ws:List ByteArray}{F G:PS->PS}{f:List ByteArray->Option (List ByteArray)}(h:ko ws F f)(hf:∀s,(G s).failed=(F s).failed)(hp:∀s,(G s).pos=(F s).pos)(hn:∀s,(G s).nodes.length=(F s).nodes.length+1):iD ws G (n1 f):=by
 refine⟨λs r hr=>?_,λs hs=>by rw[hf];exact h.bad s hs⟩;have:=h.ok s r hr;unfold Proofs.YtciihepbeacppaaGreat.n1;cases lM:f r with
 |none=>rw[lM]at this;exact(hf s).trans this
 |some q =>
  rw[lM]at this;exact⟨⟨(hf s).trans this.1,by rw[hp s];exact this.2⟩,by rw[hn s,h.nd s]⟩
theorem iD.comp{ws:List ByteArray}{F G:PS->PS}{f g:List ByteArray->Option (List ByteArray × Nat)}(hF:iD ws F f)(hG:iD ws G g):iD ws (λs=>G (F s)) (BG f g):=by
 refine⟨λs r h=>?_,λs h=>hG.bad _ (hF.bad _ h)⟩;have h1:=hF.ok s r h;unfold BG;cases hf:f r with
 |none=>rw[hf]at h1;exact hG.bad _ h1
 |some qk =>
  obtain⟨q,k⟩:=qk;rw[hf]at h1;have h2:=hG.ok _ _ h1.1;rw[h1.2]at h2;dsimp only;cases hg:g q with
  |none=>rw[hg]at h2;exact h2
  |some pj =>
   obtain⟨p,j⟩:=pj;rw[hg]at h2;exact⟨h2.1,by rw[h2.2];omega⟩
theorem iD.congr{ws:List ByteArray}{F G:PS->PS}{f:List ByteArray->Option (List ByteArray × Nat)}(h:iD ws F f)(hf:∀s,(G s).failed=(F s).failed)(hp:∀s,(G s).pos=(F s).pos)(hn:∀s,(G s).nodes.length=(F s).nodes.length):iD ws G f:=by
 refine⟨λs r hr=>?_,λs hs=>by rw[hf];exact h.bad s hs⟩;have:=h.ok s r hr;cases lM:f r with
 |none=>rw[lM]at this;exact(hf s).trans this
 |some q =>
  rw[lM]at this;exact⟨⟨(hf s).trans this.1.1,by rw[hp s];exact this.1.2⟩,by rw[hn s];exact this.2⟩
def pSc:List ByteArray->Option (List ByteArray × Nat):=n1 (λr=>(pSi r).bind (ki ig))
theorem Nj{ws:List ByteArray}:iD ws (qT ws) pSc:=(XV.comp (cP yy)).n1 (λ_=>rfl) (λ_=>rfl) (λ_=>by simp[qT,bY])
def pTn:List ByteArray->Option (List ByteArray × Nat):=n1 pTs
theorem Nk{ws:List ByteArray}:iD ws (fB ws) pTn:=XW.n1 (λ_=>rfl) (λ_=>rfl) (λ_=>by simp[fB,bY])
def ZP(k:ByteArray)(pb:List ByteArray->Option (List ByteArray × Nat)):List ByteArray->Option (List ByteArray × Nat):=BG (BG (n0 (ki k)) pTn) pb
def one(r:List ByteArray):Option (List ByteArray × Nat):=some (r,1)
def pLo(pb:List ByteArray->Option (List ByteArray × Nat)):List ByteArray->Option (List ByteArray × Nat):=BG (ZP bQ pb) one
theorem RO{ws:List ByteArray}:iD ws (bY gK) one:=⟨λ_ _ h=>⟨h,by simp[bY]⟩,λ_ h=>h⟩
theorem XT{ws:List ByteArray}{blk:PS->PS}{pb:List ByteArray->Option (List ByteArray × Nat)}(hb:iD ws blk pb):iD ws (uV blk ws) (pLo pb) :=
 (((((cP jQ).n).comp Nk).comp hb).comp RO).congr (λ_=>rfl) (λ_=>rfl) (λ_=>by simp only[uV,bK,cS];rfl)
def pEl(pb:List ByteArray->Option (List ByteArray × Nat))(r:List ByteArray):Option (List ByteArray × Nat):=if fs gM r then BG one pb r.tail else some (r,0)
def pBr(pb:List ByteArray->Option (List ByteArray × Nat)):List ByteArray->Option (List ByteArray × Nat):=BG (ZP kX pb) (pEl pb)
theorem XP{ws:List ByteArray}{blk:PS->PS}{pb:List ByteArray->Option (List ByteArray × Nat)}(hb:iD ws blk pb):iD ws (nH blk ws) (pBr pb):=by
 have hA:iD ws (ch blk ws) (ZP kX pb):=((((cP oW).n).comp Nk).comp hb);refine⟨λs r h=>?_,λs h=>?_⟩
 .have h1:=hA.ok s r h;unfold pBr BG nH;cases hf:ZP kX pb r with
  |none=>rw[hf]at h1;rw[ji oU h1];exact h1
  |some qk =>
   obtain⟨q,k⟩:=qk;rw[hf]at h1;rw[cV oU h1.1];dsimp only;unfold pEl;cases q with
   |nil=>exact⟨h1.1,by rw[show fs gM []=false from rfl];simp only[Bool.false_eq_true,if_false,bK];exact h1.2⟩
   |cons y q =>
    by_cases hy:fs gM (y::q)=true
    .rw[if_pos hy,if_pos hy];have ht:Rd ws (kf s.nodes.length (ch blk ws s)) q:=cM h1.1;have hl:(kf s.nodes.length (ch blk ws s)).nodes.length=s.nodes.length+k+1:=by
      simp only[kf,bK];simp[bY,PS.adv,h1.2]
     have h2:=hb.ok _ _ ht;rw[hl]at h2;simp only[BG,one,tail_cons];cases hg:pb q with
     |none=>rw[hg]at h2;exact h2
     |some pj =>
      obtain⟨p,j⟩:=pj;rw[hg]at h2;exact⟨h2.1,by simp only[J4,cS];rw[h2.2];omega⟩
    .rw[if_neg hy,if_neg hy];exact⟨h1.1,by simp only[bK];exact h1.2⟩
 .have h1:=hA.bad s h;unfold nH;rw[ji oU h1];exact h1
def pCm(pb:List ByteArray->Option (List ByteArray × Nat))(r:List ByteArray):Option (List ByteArray × Nat):=if fs kX r then pBr pb r else if fs bQ r then pLo pb r else pSc r
theorem XQ{ws:List ByteArray}{blk:PS->PS}{pb:List ByteArray->Option (List ByteArray × Nat)}(hb:iD ws blk pb):iD ws (jF blk ws) (pCm pb):=by
 refine⟨λs r h=>?_,λs h=>?_⟩
 .unfold jF pCm;rw[cV oW h,cV jQ h];by_cases h1:fs kX r=true
  .rw[if_pos h1,if_pos h1];exact(XP hb).ok _ _ h
  .rw[if_neg h1,if_neg h1];by_cases h2:fs bQ r=true
   .rw[if_pos h2,if_pos h2];exact(XT hb).ok _ _ h
   .rw[if_neg h2,if_neg h2];exact Nj.ok _ _ h
 .unfold jF;rw[ji oW h,ji jQ h];exact Nj.bad _ h
def ZO(pc:List ByteArray->Option (List ByteArray × Nat)):Nat->List ByteArray->Option (List ByteArray × Nat)
 |0,r=>some (r,0)
 |n+1,r=>if fs jG r then some (r,0) else BG pc (ZO pc n) r
theorem XS{ws:List ByteArray}{c:PS->PS}{pc:List ByteArray->Option (List ByteArray × Nat)}(hc:iD ws c pc)(n:Nat):iD ws (io c ws n) (ZO pc n):=by
 induction n with
 |zero=>exact⟨λ_ _ h=>⟨h,rfl⟩,λ_ h=>h⟩
 |succ n ih =>
  refine⟨λs r h=>?_,λs h=>?_⟩
  .simp only[io,ZO];rw[cV oX h,h.1,Bool.false_or];by_cases h1:fs jG r=true
   .rw[if_pos h1,if_pos h1];exact⟨h,rfl⟩
   .rw[if_neg h1,if_neg h1];exact(hc.comp ih).ok _ _ h
  .simp only[io,h,Bool.true_or,if_true]
def pBl(N:Nat):Nat->List ByteArray->Option (List ByteArray × Nat)
 |0,r=>some (r,0)
 |f+1,r=>BG (BG (n0 (ki kY)) (ZO (pCm (pBl N f)) N)) (n0 (ki jG)) r
theorem XO{ws:List ByteArray}(f:Nat):iD ws (cC ws f) (pBl (ws.length+2) f):=by
 induction f with
 |zero=>exact⟨λ_ _ h=>⟨h,rfl⟩,λ_ h=>h⟩
 |succ f ih=>exact(((cP wI).n).comp (XS (XQ ih) (ws.length+2))).comp (cP oX).n
def pPr(N:Nat):List ByteArray->Option (List ByteArray × Nat):=BG (BG (BG (n0 (ki eF)) (n0 (IF (N+1)))) (pBl (N+2) (N+1))) one
theorem XU{ws:List ByteArray}:iD ws (Ci ws) (pPr ws.length) :=
 ((((cP Ds).n.comp yU.n).comp (XO (ws.length+1))).comp (G:=bY gP) ⟨λ_ _ h=>⟨h,by simp[bY]⟩,λ_ h=>h⟩)
theorem RW{ws:List ByteArray}(h:∀k,pPr ws.length ws≠some ([],k)):(bL ws aJ).failed=true:=by
 have h1:=(XU (ws:=ws)).ok aJ ws ⟨rfl,rfl,zq5 _⟩;unfold bL;cases hf:pPr ws.length ws with
 |none=>rw[hf]at h1;split;exact h1;rfl
 |some qk =>
  obtain⟨q,k⟩:=qk;rw[hf]at h1;cases q with
  |nil=>exact absurd hf (h k)
  |cons x q =>
   have hp:¬ (Ci ws aJ).pos=ws.length:=by
    have:=congrArg List.length h1.1.2.1;simp only[length_drop,length_cons]at this;omega
   rw[if_neg hp];rfl
theorem Bq(x:ByteArray)(r:List ByteArray):II (x::r)=if fN x=true then some r else none:=by
 show(if jH x=true then some r else if aV x b9=true then some r else if aI x=true then some r else none)=if (aV x b9||aI x||jH x)=true then some r else none
 cases jH x <;> cases aV x b9 <;> cases aI x <;> rfl
def Ya(x:ByteArray):Bool:=aV x bM||aV x jB||aV x IQ
theorem IH(x:ByteArray)(r:List ByteArray):IG (x::r)=if Ya x=true then some r else none:=by
 show(if aV x bM=true then some r else if aV x jB=true then some r else if aV x IQ=true then some r else none)=if (aV x bM||aV x jB||aV x IQ)=true then some r else none
 cases aV x bM <;> cases aV x jB <;> cases aV x IQ <;> rfl
theorem kJ(x:ByteArray)(r:List ByteArray):nz (x::r)=if aV x oB=true then some r else if aV x Ce=true then pLi r else ((if fN x=true then some r else none).bind IG).bind II:=by
 rw[<-Bq];rfl
theorem Ng(k x:ByteArray)(r:List ByteArray):ki k (x::r)=if aV x k=true then some r else none:=rfl
theorem M0{x:ByteArray}(h:aV x oB=true):fN x=false:=by
 have hx:x.toList=[101,109,112]:=by simpa[aV,Kt] using h
 have hd:x.data.toList=[101,109,112]:=by rw[<-ByteArray.toList_eq];exact hx
 simp[fN,aV,aI,jH,hd,hx,show b9.toList=[110,105,108] from ByteArray.toList_eq _]
theorem Ry{x:ByteArray}(h:aV x Ce=true):fN x=false:=by
 have hx:x.toList=[108,115]:=by simpa[aV,T9] using h
 have hd:x.data.toList=[108,115]:=by rw[<-ByteArray.toList_eq];exact hx
 simp[fN,aV,aI,jH,hd,hx,show b9.toList=[110,105,108] from ByteArray.toList_eq _]
theorem iT{k:ByteArray}{r q:List ByteArray}:ki k r=some q↔∃x,aV x k=true/\r=x::q:=by
 cases r with
 |nil=>simp[ki]
 |cons y r =>
  rw[Ng];by_cases h:aV y k=true
  .rw[if_pos h];exact⟨λe=>by cases e;exact⟨y,h,rfl⟩,λ⟨x,_,e⟩=>by cases e;rfl⟩
  .rw[if_neg h];exact⟨λe=>(by cases e),λ⟨x,hx,e⟩=>by cases e;exact absurd hx h⟩
theorem iU{r q:List ByteArray}:II r=some q↔∃x,fN x=true/\r=x::q:=by
 cases r with
 |nil=>simp[II]
 |cons y r =>
  rw[Bq];by_cases h:fN y=true
  .rw[if_pos h];exact⟨λe=>by cases e;exact⟨y,h,rfl⟩,λ⟨x,_,e⟩=>by cases e;rfl⟩
  .rw[if_neg h];exact⟨λe=>(by cases e),λ⟨x,hx,e⟩=>by cases e;exact absurd hx h⟩
theorem qv{r q:List ByteArray}:IG r=some q↔∃x,Ya x=true/\r=x::q:=by
 cases r with
 |nil=>simp[IG,fs,ki]
 |cons y r =>
  rw[IH];by_cases h:Ya y=true
  .rw[if_pos h];exact⟨λe=>by cases e;exact⟨y,h,rfl⟩,λ⟨x,_,e⟩=>by cases e;rfl⟩
  .rw[if_neg h];exact⟨λe=>(by cases e),λ⟨x,hx,e⟩=>by cases e;exact absurd hx h⟩
theorem Bp{r q:List ByteArray}:pLi r=some q↔∃b c d e f,aV b lw=true/\fN c=true/\aV d Tg=true/\fN e=true/\aV f kS=true/\r=b::c::d::e::f::q:=by
 constructor
 .intro h;unfold pLi at h;obtain⟨r4,h,h5⟩:=Option.bind_eq_some_iff.1 h;obtain⟨r3,h,h4⟩:=Option.bind_eq_some_iff.1 h;obtain⟨r2,h,h3⟩:=Option.bind_eq_some_iff.1 h;obtain⟨r1,h1,h2⟩:=Option.bind_eq_some_iff.1 h;obtain⟨b,hb,rfl⟩:=iT.1 h1;obtain⟨c,hc,rfl⟩:=iU.1 h2;obtain⟨d,hd,rfl⟩:=iT.1 h3;obtain⟨e,he,rfl⟩:=iU.1 h4;obtain⟨f,hf,rfl⟩:=iT.1 h5;exact⟨b,c,d,e,f,hb,hc,hd,he,hf,rfl⟩
 .rintro⟨b,c,d,e,f,hb,hc,hd,he,hf,rfl⟩;show((((ki lw (b::c::d::e::f::q)).bind II).bind (ki Tg)).bind II).bind (ki kS)=some q;rw[iT.2 ⟨b,hb,rfl⟩,Option.bind_some,iU.2 ⟨c,hc,rfl⟩,Option.bind_some,iT.2 ⟨d,hd,rfl⟩,Option.bind_some,iU.2 ⟨e,he,rfl⟩,Option.bind_some,iT.2 ⟨f,hf,rfl⟩]
theorem iS{l q:List ByteArray}:nz l=some q↔∃p,vF p=true/\l=p++q:=by
 constructor
 .intro h;cases l with
  |nil=>simp[nz,fs,II]at h
  |cons a r =>
   rw[kJ]at h;by_cases h1:aV a oB=true
   .rw[if_pos h1]at h;simp only[Option.some.injEq]at h;subst h;exact⟨[a],h1,rfl⟩
   .rw[if_neg h1]at h;by_cases h2:aV a Ce=true
    .rw[if_pos h2]at h;obtain⟨b,c,d,e,f,hb,hc,hd,he,hf,rfl⟩:=Bp.1 h;exact⟨[a,b,c,d,e,f],by simp[vF,h2,hb,hc,hd,he,hf],rfl⟩
    .rw[if_neg h2]at h;obtain⟨r2,h,h5⟩:=Option.bind_eq_some_iff.1 h;obtain⟨r1,h3,h4⟩:=Option.bind_eq_some_iff.1 h;by_cases h6:fN a=true
     .rw[if_pos h6]at h3;simp only[Option.some.injEq]at h3;subst h3;obtain⟨b,hb,rfl⟩:=qv.1 h4;obtain⟨c,hc,rfl⟩:=iU.1 h5;exact⟨[a,b,c],by simp only[vF,h6,hc,Bool.true_and];exact hb,rfl⟩
     .rw[if_neg h6]at h3;cases h3
 .rintro⟨p,hp,rfl⟩;match p,hp with
  |[a],hp=>show nz (a::q)=some q;rw[kJ,if_pos (show aV a oB=true from hp)]
  |[a,b,c],hp =>
   simp only[vF,Bool.and_eq_true]at hp;show nz (a::b::c::q)=some q;have h1:¬ aV a oB=true:=λh=>by rw[M0 h]at hp;simp at hp
   have h2:¬ aV a Ce=true:=λh=>by rw[Ry h]at hp;simp at hp
   rw[kJ,if_neg h1,if_neg h2,if_pos hp.1.1,Option.bind_some,qv.2 ⟨b,hp.2,rfl⟩,Option.bind_some,iU.2 ⟨c,hp.1.2,rfl⟩]
  |[a,b,c,d,e,f],hp =>
   simp only[vF,Bool.and_eq_true]at hp;obtain⟨⟨⟨⟨ha,hb⟩,hd⟩,hf⟩,hc,he⟩:=hp;show nz (a::b::c::d::e::f::q)=some q;have h1:¬ aV a oB=true:=λh=>by
    have e1:a.toList=[101,109,112]:=(by simpa[aV,Kt] using h);have e2:a.toList=[108,115]:=(by simpa[aV,T9] using ha);rw[e1]at e2;simp at e2
   rw[kJ,if_neg h1,if_pos ha];exact Bp.2 ⟨b,c,d,e,f,hb,hc,hd,he,hf,rfl⟩
