import Derived.Test.YtciihepbeacppaaGreatM11
import Derived.Deep.Cut
import Derived.Deep.CutRange
import Derived.Deep.DeepCutAuto
set_option maxRecDepth 100000
set_option maxHeartbeats 0
namespace Go.Proofs.YtciihepbeacppaaGreat
open Tryz Go.RowKit List World Below
set_option linter.unusedVariables false
def CE(s:Sr)(n:Nat)(P:CF->Prop):Prop:=∃e∈br s n,P e.f
structure SY(P:CF->Prop):Prop where
 wi:∀{f g:CF},aj f->aj g->Ei f g=true->P f->P g
def sY(s:Sr)(n k:Nat):Bool:=(s.wr.getD n []).getD k false
def Sf(s:Sr):Prop:=s.fu=false/\∀n k,k=2\/k=3\/k=4->sY s n k=false
structure kk(N:Nat)(s:Sr):Prop where
 kn:s.kn.length=N
 wr:s.wr.length=N
 rw:∀r∈s.wr,r.length=5
 td:qo s
structure mS(s s':Sr):Prop where
 fu:s.fu=true->s'.fu=true
 fl:∀n k,sY s n k=true->sY s' n k=true
 kn:∀n P,SY P->CE s n P->CE s' n P
theorem mS.refl(s:Sr):mS s s:=⟨λh=>h,λ_ _ h=>h,λ_ _ _ h=>h⟩
theorem mS.trans{a b c:Sr}(h:mS a b)(h':mS b c):mS a c:=⟨λx=>h'.fu (h.fu x),λn k x=>h'.fl n k (h.fl n k x),λn P hc x=>h'.kn n P hc (h.kn n P hc x)⟩
theorem mS.sf{a b:Sr}(h:mS a b)(hs:Sf b):Sf a:=by
 refine⟨?_,λn k hk=>?_⟩
 .cases hf:a.fu with
  |false=>rfl
  |true=>have:=h.fu hf;rw[hs.1]at this;cases this
 .cases hf:sY a n k with
  |false=>rfl
  |true=>have:=h.fl n k hf;rw[hs.2 n k hk]at this;cases this
section
variable {c:Cd} {N n:Nat} {f:CF} {s:Sr} {cs:List (Int × Int)} {t:Nat->Int}
theorem lz{l:List ii}(hn:n<s.kn.length)(m:Nat):(s.kn.set n l).getD m []=if n=m then l else br s m:=du _ _ _ _ _ hn
theorem oj(hf:Td f)(hs:kk N s)(hn:n<N):mS s (bz c n f s)/\kk N (bz c n f s)/\∀P,SY P->P (bI c n f)->CE (bz c n f s) n P:=by
 have us:qo (bz c n f s):=Bf hf hs.td;have hg:Td (bI c n f):=Be hf;have gw:n<s.kn.length:=by rw[hs.kn];exact hn
 unfold bz at us ⊢;split
 .rename_i qG;rw[if_pos qG]at us;refine⟨⟨λh=>?_,λ_ _ h=>h,λ_ _ _ h=>h⟩,⟨hs.kn,hs.wr,hs.rw,us⟩,λP hc h=>?_⟩
  .show(s.fu||_)=true;rw[h];rfl
  .obtain⟨e,he,hw⟩:=any_eq_true.1 qG;exact⟨e,he,hc.wi hg.ok (hs.td.at n e he).ok hw h⟩
 .rename_i qG;rw[if_neg qG]at us;have hkA:∀m,br (sL c (pX n (bI c n f) (oZ c s (2*(br s n).length)))) m=if n=m then (br s n).filter (λe=>!Ei e.f (bI c n f))++[⟨bI c n f,false⟩] else br s m:=λm=>lz gw m
  refine⟨⟨λh=>?_,λ_ _ h=>h,λm P hc h=>?_⟩,⟨?_,hs.wr,hs.rw,us⟩,λP hc h=>?_⟩
  .show((s.fu||_)||_)=true;rw[h];rfl
  .obtain⟨e,he,SF⟩:=h;unfold CE;rw[hkA];by_cases e0:n=m
   .subst e0;rw[if_pos rfl];by_cases hw:Ei e.f (bI c n f)=true
    .exact⟨⟨bI c n f,false⟩,by simp,hc.wi (hs.td.at n e he).ok hg.ok hw SF⟩
    .exact⟨e,mem_append_left _ (mem_filter.2 ⟨he,by simpa using hw⟩),SF⟩
   .rw[if_neg e0];exact⟨e,he,SF⟩
  .show(s.kn.set n _).length=N;rw[length_set];exact hs.kn
  .unfold CE;rw[hkA,if_pos rfl];exact⟨⟨bI c n f,false⟩,by simp,h⟩
theorem uy:∀(l:List CF) {s:Sr},bW l->kk N s->n<N->mS s (l.foldl (λs g=>bz c n g s) s)/\kk N (l.foldl (λs g=>bz c n g s) s)
 |[],s,_,h,_=>⟨mS.refl s,h⟩
 |g::l,s,hl,h,hn=>by
  rw[foldl_cons];obtain⟨h1,h2,-⟩:=oj (c:=c) (hl g (by simp)) h hn;obtain⟨h3,h4⟩:=uy l (λx hx=>hl x (by simp[hx])) h2 hn;exact⟨h1.trans h3,h4⟩
theorem nU{k:Nat}(hs:kk N s)(hn:n<N)(hk:k<5)(m j:Nat):sY (kQ n k s) m j=if n=m/\k=j then true else sY s m j:=by
 have hw:n<s.wr.length:=by rw[hs.wr];exact hn
 have hr:(s.wr.getD n []).length=5:=by
  rw[getD_eq_getElem?_getD,getElem?_eq_getElem hw];exact hs.rw _ (getElem_mem hw)
 unfold sY;show((s.wr.set n ((s.wr.getD n []).set k true)).getD m []).getD j false=_;rw[du _ _ _ _ _ hw];by_cases e:n=m
 .subst e;rw[if_pos rfl,du _ _ _ _ _ (by omega)];by_cases e2:k=j
  .rw[if_pos e2,if_pos ⟨rfl,e2⟩]
  .rw[if_neg e2,if_neg (λh=>e2 h.2)]
 .rw[if_neg e,if_neg (λh=>e h.1)]
theorem xJ{k:Nat}(hs:kk N s)(hn:n<N)(hk:k<5):mS s (kQ n k s)/\kk N (kQ n k s):=by
 refine⟨⟨λh=>h,λm j h=>?_,λ_ _ _ h=>h⟩,⟨hs.kn,?_,λr hr=>?_,hs.td⟩⟩
 .rw[nU hs hn hk];split
  .rfl
  .exact h
 .show(s.wr.set n _).length=N;rw[length_set];exact hs.wr
 .rcases mem_or_eq_of_mem_set (show r∈s.wr.set n _ from hr) with h|rfl
  .exact hs.rw r h
  .rw[length_set];have hw:n<s.wr.length:=(by rw[hs.wr];exact hn);rw[getD_eq_getElem?_getD,getElem?_eq_getElem hw];exact hs.rw _ (getElem_mem hw)
theorem jt{b:Bool}{k:Nat}(hs:kk N s)(hn:n<N)(hk:k<5):mS s (wrI b n k s)/\kk N (wrI b n k s)/\(k=2\/k=3\/k=4->Sf (wrI b n k s)->b=false):=by
 unfold wrI;split
 .obtain⟨h1,h2⟩:=xJ hs hn hk;refine⟨h1,h2,λmL hS=>?_⟩;have:=hS.2 n k mL;rw[nU hs hn hk,if_pos ⟨rfl,rfl⟩]at this;cases this
 .rename_i hb;exact⟨mS.refl s,hs,λ_ _=>by simpa using hb⟩
theorem Zj:∀(m k:Nat) {res:List CF} {r:List CF × Sr},r.2.fu=true->(iq c m k res r).2.fu=true
 |0,_,_,_,h=>h
 |m+1,k,res,r,h=>by
  unfold iq;rw[if_neg (λh2=>by rw[h]at h2;cases h2.2)];exact h
theorem Af{fuel a b:Nat}(hf:Td f)(hs:kk N s)(ha:a<N)(hb:b<N):mS s (dV c fuel a b f s)/\kk N (dV c fuel a b f s)/\(Sf (dV c fuel a b f s)->∀P,SY P->P (bI c b f)->CE (dV c fuel a b f s) b P):=by
 unfold dV;split
 .obtain⟨h1,h2,h3⟩:=oj (c:=c) hf hs hb;exact⟨h1,h2,λ_=>h3⟩
 .simp only;obtain⟨g1,g2⟩:=xJ hs ha (k:=2) (by omega);obtain⟨k1,k2,k3⟩:=kT (c:=c) fuel 0 (res:=[]) (r:=([f],kQ a 2 s)) (λg hg=>by rw[mem_singleton.1 hg];exact hf) (λg hg=>by simp at hg);have hL:mS (kQ a 2 s) (iq c fuel 0 [] ([f],kQ a 2 s)).2:=by
   refine⟨λh=>Zj fuel 0 h,λm k h=>?_,λm P hc h=>?_⟩
   .unfold sY;rw[k3];exact h
   .unfold CE br;rw[k2];exact h
  have hS:kk N (iq c fuel 0 [] ([f],kQ a 2 s)).2:=⟨by rw[k2];exact g2.kn,by rw[k3];exact g2.wr,λr hr=>by rw[k3]at hr;exact g2.rw r hr,λl hl=>by rw[k2]at hl;exact g2.td l hl⟩;obtain⟨q1,q2⟩:=uy (c:=c) (n:=b) (iq c fuel 0 [] ([f],kQ a 2 s)).1 k1 hS hb;refine⟨g1.trans (hL.trans q1),q2,λhsf=>?_⟩;have h9:=((hL.trans q1).sf hsf).2 a 2 (zq0 rfl);rw[nU hs ha (by omega),if_pos ⟨rfl,rfl⟩]at h9;cases h9
theorem pI{fuel a b:Nat}(ha:a<N):∀(l:List CF) {s:Sr},(l≠[]->b<N)->bW l->kk N s->mS s (l.foldl (λs g=>dV c fuel a b g s) s)/\kk N (l.foldl (λs g=>dV c fuel a b g s) s) /\
  (Sf (l.foldl (λs g=>dV c fuel a b g s) s)->∀g∈l,∀P,SY P->P (bI c b g)->CE (l.foldl (λs g=>dV c fuel a b g s) s) b P)
 |[],s,_,_,h=>⟨mS.refl s,h,λ_ g hg=>by simp at hg⟩
 |g::l,s,hb,hl,h=>by
  rw[foldl_cons];have hbN:=hb (by simp);obtain⟨h1,h2,h3⟩:=Af (c:=c) (fuel:=fuel) (hl g (by simp)) h ha hbN;obtain⟨h4,h5,h6⟩:=pI ha l (λ_=>hbN) (λx hx=>hl x (by simp[hx])) h2;refine⟨h1.trans h4,h5,λhS x hx P hc SF=>?_⟩;rcases mem_cons.1 hx with rfl|hx
  .exact h4.kn _ _ hc (h3 (h4.sf hS) P hc SF)
  .exact h6 hS x hx P hc SF
structure ClS(c:Cd)(s:Sr)(n:Nat)(f:CF):Prop where
 nu:(cn (c.nds.getD n aI) f).nu=false
 da:(cn (c.nds.getD n aI) f).da=false
 fu:(cn (c.nds.getD n aI) f).fu=false
 en:(c.nds.getD n aI).op=0->dd f=[]
 nx:∀g∈(cn (c.nds.getD n aI) f).nx,aj g/\∀P,SY P->P (bI c (c.nds.getD n aI).nx g)->CE s (c.nds.getD n aI).nx P
 ot:∀g∈(cn (c.nds.getD n aI) f).ot,aj g/\∀P,SY P->P (bI c (c.nds.getD n aI).ot g)->CE s (c.nds.getD n aI).ot P
theorem ClS.mono{s':Sr}(h:ClS c s n f)(hl:mS s s'):ClS c s' n f:=⟨h.nu,h.da,h.fu,h.en,λg hg=>⟨(h.nx g hg).1,λP hc hf=>hl.kn _ _ hc ((h.nx g hg).2 P hc hf)⟩,λg hg=>⟨(h.ot g hg).1,λP hc hf=>hl.kn _ _ hc ((h.ot g hg).2 P hc hf)⟩⟩
end
theorem fL.congr{bl:List Bool}{s t:List Nat}(h:fL bl s)(he:∀c,c∈s↔c∈t):fL bl t:=⟨h.1,λc hc=>(h.2 c hc).trans (he c)⟩
structure Rng(f:CF):Prop where
 cl:∀c∈ko f,c<24
 ow:Rm f
 ap:RmA f
theorem Au(w:World):Ob (w.alloc (.cells (dp (replicate 24 false)).toArray 240)) 240 24 w.heap.size (dp (replicate 24 false)) :=
 ownsRow_lit (base:=0) (e:=240) (size:=24) w (dp (replicate 24 false)).toArray 1 (zq5 _) (by simp[maxLen]) rfl
theorem CU:fL (replicate 24 false) []:=⟨by simp,λc hc=>by rw[getD_eq_getElem?_getD,getElem?_replicate,if_pos hc];simp⟩
theorem za{l:List Pr}{P:Pr->Bool}{k:Nat}(hk:k<l.length):(l.take (k+1)).filter P=(l.take k).filter P++(if P (l.getD k ay) then [l.getD k ay] else []):=by
 rw[j7 hk,take_add_one,getElem?_eq_getElem hk,filter_append];congr 1;simp only[Option.toList];cases h:P l[k] <;> simp[h]
theorem Kq{l:List Pr}{k:Nat}(hk:k<l.length):(l.take (k+1)).flatMap (λp=>[p.l,p.r])=(l.take k).flatMap (λp=>[p.l,p.r])++[(l.getD k ay).l,(l.getD k ay).r]:=by
 rw[j7 hk,take_add_one,getElem?_eq_getElem hk,flatMap_append];simp
theorem Vn{S T:List Nat}{a b d:Nat}:d∈b::a::(S++T)↔d∈S++(T++[a,b]):=by
 simp only[mem_cons,mem_append,not_mem_nil,or_false];exact⟨λh=>by rcases h with h|h|h|h <;> simp[h],λh=>by rcases h with h|h|h|h <;> simp[h]⟩
section
variable {w:World} {A:Nat} {f:CF} {av ov:Value}
theorem Fy(h:Fm w A f av ov)(hR:Rng f)(ha:f.ap.length<=100000)(ho:f.ow.length<=100000):Calls prog 197 #[.pointer (some ⟨A,0,none⟩)] w λe w'=>e=.returned (.tuple #[])/\∃av',Fm w' A (cK f) av' ov/\ar (aG A av ov) w (aG A av' ov) w':=by
 obtain⟨i0,lw,gY,gz,gL⟩:=info_parts infoPair;obtain⟨oa,oc,gy,-,-⟩:=am h.is.ow;subst gy;obtain⟨aa,ac,kt,-,-⟩:=am h.is.ap;subst kt;obtain⟨w0,mB⟩:∃w0,w0=w.alloc (.cells (dp (replicate 24 false)).toArray 240):=⟨_,rfl⟩;have tK:Below w.heap.size w w0:=by rw[mB];exact ah w _
 have Uj:Ob w0 240 24 w.heap.size (dp (replicate 24 false)):=by rw[mB];exact Au w
 have h0:=h.is.below tK;have x0:=h0.cls (i:=0) (by omega);have x1:=h0.cls (i:=1) (by omega);have x2:=h0.cls (i:=2) (by omega);have x3:=h0.cls (i:=3) (by omega);have x4:=h0.cls (i:=4) (by omega);unfold hU at x0 x1 x2 x3 x4;have dU:=hR.cl;unfold ko at dU;have hcL:ko f=[f.cl.getD 0 0,f.cl.getD 1 0,f.cl.getD 2 0,f.cl.getD 3 0,f.cl.getD 4 0]:=rfl;obtain⟨y0,e0⟩:∃y,y=f.cl.getD 0 0:=⟨_,rfl⟩;obtain⟨y1,e1⟩:∃y,y=f.cl.getD 1 0:=⟨_,rfl⟩;obtain⟨y2,e2⟩:∃y,y=f.cl.getD 2 0:=⟨_,rfl⟩;obtain⟨y3,e3⟩:∃y,y=f.cl.getD 3 0:=⟨_,rfl⟩;obtain⟨y4,e4⟩:∃y,y=f.cl.getD 4 0:=⟨_,rfl⟩;rw[<-e0,<-e1,<-e2,<-e3,<-e4]at dU hcL;rw[<-e0]at x0;rw[<-e1]at x1;rw[<-e2]at x2;rw[<-e3]at x3;rw[<-e4]at x4;have l0:y0<24:=dU y0 (by simp);have l1:y1<24:=dU y1 (by simp);have l2:y2<24:=dU y2 (by simp);have l3:y3<24:=dU y3 (by simp);have l4:y4<24:=dU y4 (by simp);have j0:=AR (.int .i64 (y0:Int)) (.int .i64 (y1:Int)) (.int .i64 (y2:Int)) (.int .i64 (y3:Int)) (.int .i64 (y4:Int));have j1:=AS (.int .i64 (y0:Int)) (.int .i64 (y1:Int)) (.int .i64 (y2:Int)) (.int .i64 (y3:Int)) (.int .i64 (y4:Int));have j2:=AT (.int .i64 (y0:Int)) (.int .i64 (y1:Int)) (.int .i64 (y2:Int)) (.int .i64 (y3:Int)) (.int .i64 (y4:Int));have j3:=AU (.int .i64 (y0:Int)) (.int .i64 (y1:Int)) (.int .i64 (y2:Int)) (.int .i64 (y3:Int)) (.int .i64 (y4:Int));have j4:=AV (.int .i64 (y0:Int)) (.int .i64 (y1:Int)) (.int .i64 (y2:Int)) (.int .i64 (y3:Int)) (.int .i64 (y4:Int));have H:=ab h;have xK:=ab hcL;have HR:=ab hR;have cG:Hid (Ob w0 240 24 w.heap.size (dp (replicate 24 false))/\fL (replicate 24 false) ([y0,y1,y2,y3,y4].take 0)/\Below w.heap.size w w0):=ab ⟨Uj,CU,tK⟩;clear h e0 e1 e2 e3 e4 dU hcL hR h0 Uj tK;simp only[dp,replicate,map_cons,map_nil]at mB;go_enter func197,ntmps197;go_upto_region 1 with fail;rw[<-mB];clear mB;go_wp2_with fail
 go_loopw [14] (λi wx=>∃(k:Nat) (bl:List Bool),k<=5/\i=.int .i64 k/\Hid (Ob wx 240 24 w.heap.size (dp bl)/\fL bl ([y0,y1,y2,y3,y4].take k)/\Below w.heap.size w wx)) (λi _=>5-(intOf i).toNat)
 case atStart=>exact⟨0,_,zq5 _,rfl,cG⟩
 case round =>
  clear cG x0 x1 x2 x3 x4;obtain⟨k,bl,hk,rfl,hI⟩:=hrel;have aP:∀c,c<24->(∃u,wr.cell? ⟨w.heap.size,c,none⟩=some u)/\wr.frozen? ⟨w.heap.size,c,none⟩=false:=λc hc=>⟨⟨_,(ownsRow.cellAt (uh hI).1 c (by omega)).trans (fQ (by rw[(uh hI).2.1.1];exact hc))⟩,ownsRow.frozenAt (uh hI).1 c⟩;have v7:∀c,c<24->∀t,(∀d,d∈c::([y0,y1,y2,y3,y4].take k)↔d∈t)->Ob (wr.setCell ⟨w.heap.size,c,none⟩ (.bool true)) 240 24 w.heap.size (dp (bl.set c true))/\fL (bl.set c true) t/\Below w.heap.size w (wr.setCell ⟨w.heap.size,c,none⟩ (.bool true)):=λc hc t ht =>
   ⟨by have:=(uh hI).1.stored c (.bool true);rwa [lX]at this,((uh hI).2.1.add hc).congr ht,(uh hI).2.2.setCell (p:=⟨w.heap.size,c,none⟩) (zq4 _) _⟩
  have qn:=ab v7;clear v7;have vT:k=0\/k=1\/k=2\/k=3\/k=4\/k=5:=by omega
  rcases vT with rfl|rfl|rfl|rfl|rfl|rfl
  .obtain⟨⟨u,hu⟩,hz⟩:=aP y0 l0;clear aP;go_wp2_with fail
   go_roundw
   case rel=>exact⟨1,_,by omega,by go_num,ab (uh qn y0 l0 _ (λd=>by simp))⟩
   case measure=>simp[intOf]
  .obtain⟨⟨u,hu⟩,hz⟩:=aP y1 l1;clear aP;go_wp2_with fail
   go_roundw
   case rel=>exact⟨2,_,by omega,by go_num,ab (uh qn y1 l1 _ (λd=>by simp;try omega))⟩
   case measure=>simp[intOf]
  .obtain⟨⟨u,hu⟩,hz⟩:=aP y2 l2;clear aP;go_wp2_with fail
   go_roundw
   case rel=>exact⟨3,_,by omega,by go_num,ab (uh qn y2 l2 _ (λd=>by simp;try omega))⟩
   case measure=>simp[intOf]
  .obtain⟨⟨u,hu⟩,hz⟩:=aP y3 l3;clear aP;go_wp2_with fail
   go_roundw
   case rel=>exact⟨4,_,by omega,by go_num,ab (uh qn y3 l3 _ (λd=>by simp;try omega))⟩
   case measure=>simp[intOf]
  .obtain⟨⟨u,hu⟩,hz⟩:=aP y4 l4;clear aP;go_wp2_with fail
   go_roundw
   case rel=>exact⟨5,_,by omega,by go_num,ab (uh qn y4 l4 _ (λd=>by simp;try omega))⟩
   case measure=>simp[intOf]
  .clear aP qn;rw[show((5:Nat):Int)=(5:Int) from rfl];have h1:=(uh H).is.below (uh hI).2.2;have c6:=h1.c6;obtain⟨D,hD⟩:∃D,D=w.heap.size:=⟨_,rfl⟩;have ep:Hid (Ob wr 240 24 D (dp bl)/\fL bl ([y0,y1,y2,y3,y4]++(f.ow.take 0).flatMap (λp=>[p.l,p.r]))/\Below w.heap.size w wr):=ab ⟨by rw[hD];exact(uh hI).1,(uh hI).2.1,(uh hI).2.2⟩;have HD:=ab hD;clear hI h1 j0 j1 j2 j3 j4 l0 l1 l2 l3 l4;rw[<-hD];clear hD;go_wp2_with fail
   go_loopw [25] (λi wx=>∃(k:Nat) (bl:List Bool),k<=f.ow.length/\i=.int .i64 k/\Hid (Ob wx 240 24 D (dp bl)/\fL bl ([y0,y1,y2,y3,y4]++(f.ow.take k).flatMap (λp=>[p.l,p.r]))/\Below w.heap.size w wx)) (λi _=>f.ow.length-(intOf i).toNat)
   case atStart=>exact⟨0,bl,zq5 _,rfl,ep⟩
   case round =>
    clear ep c6;obtain⟨k,bl,hk,rfl,hI⟩:=hrel;have h1:=(uh H).is.below (uh hI).2.2;by_cases au:k<f.ow.length
    .have hd:decide ((k:Int)<(f.ow.length:Int))=true:=(by simp;omega);obtain⟨g,cap,dF,-,-⟩:=aE h1.ow au;simp only[Value.slice.injEq,true_and]at dF;obtain⟨rfl,rfl⟩:=dF;obtain⟨x0,x1,x2⟩:=aB h1.ow au;obtain⟨k7,xW⟩:=(uh HR).ow.at k;have qq:=Kq au;obtain⟨p,hp⟩:∃p,p=f.ow.getD k ay:=⟨_,rfl⟩;rw[<-hp]at x0 x1 x2 k7 xW qq;obtain⟨-,n1,n2⟩:=Gs wr (Value.int .i64 p.k) (.int .i64 p.l) (.int .i64 p.r) 182;have hDl:D<wr.heap.size:=(ownsRow.lt (uh hI).1 D rfl).2;have o0:=(uh hI).1.alloc (.cells #[Value.int .i64 p.k,.int .i64 p.l,.int .i64 p.r] 182);obtain⟨⟨u1,hu1⟩,amv⟩:=o0.some (j:=p.l) k7;have o1:=(uh hI).1.stored p.l (.bool true);rw[lX]at o1;obtain⟨⟨u3,hu3⟩,asx⟩:=o1.some (j:=p.r) xW;have o2:=o1.stored p.r (.bool true);rw[lX]at o2;have n2':((wr.alloc (.cells #[Value.int .i64 p.k,.int .i64 p.l,.int .i64 p.r] 182)).setCell ⟨D,p.l,none⟩ (.bool true)).cell? ⟨wr.heap.size,2,none⟩=some (.int .i64 (p.r:Int)):=by
      rw[cell?_setCell_other _ _ _ _ (by intro e;simp at e;try omega)];exact n2
     have AB:=(((uh hI).2.2.setCell (p:=⟨D,p.l,none⟩) (Nat.le_of_eq (uh HD).symm) (.bool true)).setCell (p:=⟨D,p.r,none⟩) (Nat.le_of_eq (uh HD).symm) (.bool true));have HO2:=ab (o2.alloc (.cells #[Value.int .i64 p.k,.int .i64 p.l,.int .i64 p.r] 182));have Sl:Hid (fL ((bl.set p.l true).set p.r true) ([y0,y1,y2,y3,y4]++(f.ow.take (k+1)).flatMap (λp=>[p.l,p.r]))):=ab ((((uh hI).2.1.add k7).add xW).congr (λd=>by rw[qq];exact Vn));have MH:=ab (AB.alloc AB.size (.cells #[Value.int .i64 p.k,.int .i64 p.l,.int .i64 p.r] 182));have i1:(0:Int)<=(k:Int):=(by omega);have i2:(k:Int)<(f.ow.length:Int):=(by omega);clear o0 o1 o2 hp qq h1 hI AB;go_wp2_with fail
     go_roundw
     case rel=>exact⟨k+1,_,by omega,by go_num,ab ⟨uh HO2,uh Sl,uh MH⟩⟩
     case measure=>simp[intOf];omega
    .have hd:decide ((k:Int)<(f.ow.length:Int))=false:=(by simp;omega);have kI:k=f.ow.length:=(by omega);have c5:=(h1.alloc (.cells #[] 182)).c5;have Sl:Hid (fL bl (bM f)):=ab (by
      have:=(uh hI).2.1;rw[kI,take_length]at this;unfold bM;rw[uh xK];exact this)
     have HOD:=ab (uh hI).1;have S1:=ab (uh hI).2.2;have ve:Hid ((wr.alloc (.cells #[] 182)).ownsRow wr.heap.size 182 3 (.slice (some ⟨wr.heap.size,0,none⟩) 0 0) 0 []/\Below wr.heap.size wr (wr.alloc (.cells #[] 182))):=ab ⟨ownsRow_lit (base:=wr.heap.size) (e:=182) (size:=3) wr #[] 0 (zq4 _) (by simp[maxLen]) rfl,ah wr _⟩;have H1:=ab h1;clear h1 hI kI;obtain⟨wz,hwz⟩:∃wz,wz=wr:=⟨_,rfl⟩;rw[<-hwz]at HOD S1 ve H1 c5 ⊢;clear hwz;go_wp2_with fail
     go_loopw [7,42] (λrv j wx=>∃(k:Nat),k<=f.ap.length/\j=.int .i64 k/\Hid (wx.ownsRow wz.heap.size 182 3 rv ((f.ap.take k).filter (yh f)).length (af ((f.ap.take k).filter (yh f)))/\Below wz.heap.size wz wx)) (λ_ j _=>f.ap.length-(intOf j).toNat)
     case atStart=>exact⟨0,zq5 _,rfl,ve⟩
     case round =>
      clear ve c5;obtain⟨k,hk,rfl,hI⟩:=hrel;have hF:=(uh H1).below (uh hI).2;have hdo:=(uh HOD).of_eq (w':=wr) ((uh hI).2.block D (ownsRow.lt (uh HOD) D rfl).2);obtain⟨ra,rc,Mw,-,-⟩:=am (uh hI).1;subst Mw;by_cases au:k<f.ap.length
      .have hd:decide ((k:Int)<(f.ap.length:Int))=true:=(by simp;omega);obtain⟨g2,cap2,dF,-,-⟩:=aE hF.ap au;simp only[Value.slice.injEq,true_and]at dF;obtain⟨rfl,rfl⟩:=dF;obtain⟨x0,x1,x2⟩:=aB hF.ap au;obtain⟨k7,xW⟩:=(uh HR).ap (f.ap.getD k ay) (by rw[j7 au];exact getElem_mem au);have aP:=za (P:=yh f) au;obtain⟨p,hp⟩:∃p,p=f.ap.getD k ay:=⟨_,rfl⟩;rw[<-hp]at x0 x1 x2 k7 xW aP;obtain⟨-,n1,n2⟩:=Gs wr (Value.int .i64 p.k) (.int .i64 p.l) (.int .i64 p.r) 182;have hDl:D<wr.heap.size:=(ownsRow.lt hdo D rfl).2;obtain⟨⟨-,-⟩,amv⟩:=hdo.some (j:=p.l) k7;have d1:=(ownsRow.cellAt hdo p.l (by omega)).trans (fQ (by rw[(uh Sl).1];exact k7));have d2:=(ownsRow.cellAt hdo p.r (by omega)).trans (fQ (by rw[(uh Sl).1];exact xW));obtain⟨b1,bB⟩:∃b,b=bl.getD p.l false:=⟨_,rfl⟩;obtain⟨b2,aW⟩:∃b,b=bl.getD p.r false:=⟨_,rfl⟩;rw[<-bB]at d1;rw[<-aW]at d2;have e1:decide (p.l∈bM f)=b1:=(by rw[bB];have:=(uh Sl).2 p.l k7;cases h:bl.getD p.l false <;> simp_all);have e2:decide (p.r∈bM f)=b2:=(by rw[aW];have:=(uh Sl).2 p.r xW;cases h:bl.getD p.r false <;> simp_all);have di:=ab aP;have HP:Hid (yh f p=(b1&&b2&&!mH f p.l p.r)):=ab (by unfold yh;rw[e1,e2]);have gb:=ab ((uh hI).2.alloc (uh hI).2.size (.cells #[.int .i64 (p.k:Int),.int .i64 (p.l:Int),.int .i64 (p.r:Int)] 182));have HRB:=ab ((uh hI).1.alloc (.cells #[.int .i64 (p.k:Int),.int .i64 (p.l:Int),.int .i64 (p.r:Int)] 182));have EY:=ab (hF.alloc (.cells #[.int .i64 (p.k:Int),.int .i64 (p.l:Int),.int .i64 (p.r:Int)] 182));have i1:(0:Int)<=(k:Int):=(by omega);have i2:(k:Int)<(f.ap.length:Int):=(by omega);have dO:((f.ap.take k).filter (yh f)).length<=k:=zq3 (length_filter_le _ _) (by simp;omega);obtain⟨L,hL⟩:∃L,L=(f.ap.take k).filter (yh f):=⟨_,rfl⟩;rw[<-hL]at di HRB hI dO ⊢;clear hp aP hF hdo bB aW e1 e2 hL;have no:yh f p=false->(f.ap.take (k+1)).filter (yh f)=L:=λh=>by rw[uh di,h];simp
       have yes:yh f p=true->(f.ap.take (k+1)).filter (yh f)=L++[p]:=λh=>by rw[uh di,h];simp
       have NO:=ab no;have YES:=ab yes;clear no yes;cases b1
       .go_wp2_with fail
        go_roundw
        case rel=>exact⟨k+1,by omega,by go_num,ab (by rw[uh NO (by rw[uh HP];rfl)];exact⟨uh HRB,uh gb⟩)⟩
        case measure=>simp[intOf];omega
       .cases b2
        .go_wp2_with fail
         go_roundw
         case rel=>exact⟨k+1,by omega,by go_num,ab (by rw[uh NO (by rw[uh HP];rfl)];exact⟨uh HRB,uh gb⟩)⟩
         case measure=>simp[intOf];omega
        .go_wp2_with fail
         refine(yV p.l p.r (uh EY)).mono ?_;rintro e w1 ⟨rfl,rfl⟩;cases dU:mH f p.l p.r
         .have HY:=ab (uh YES (by rw[uh HP,dU];rfl));clear YES NO HP dU;go_wp2_with (at_builtin;refine aS _ rfl (.tmp 65) (.tmp 67) 177 rfl wz.heap.size 182 i0 _ 3 24 underlying177 lw gY gz gL rfl (by decide) _ L.length (af L) rfl ((uh HRB).alloc _) ⟨_,0,none⟩ 1 [.int .i64 (p.k:Int),.int .i64 (p.l:Int),.int .i64 (p.r:Int)] rfl rfl (aN _ _ (by simp) [.int .i64 (p.k:Int),.int .i64 (p.l:Int),.int .i64 (p.r:Int)] _) (rj p) (by omega) (by omega) (by have:=(uh gb).size;simp at this ⊢;omega) ?_)
          intro g4 cap4 w4 iL ew jM;have HN:Hid (w4.ownsRow wz.heap.size 182 3 (.slice (some ⟨g4,0,none⟩) (L.length+1) cap4) ((f.ap.take (k+1)).filter (yh f)).length (af ((f.ap.take (k+1)).filter (yh f)))/\Below wz.heap.size wz w4):=ab (by
           rw[uh HY,length_append,length_singleton,fe];refine⟨iL,?_⟩;have hb:=(uh gb).alloc (uh gb).size (.cells #[.int .i64 (p.k:Int),.int .i64 (p.l:Int),.int .i64 (p.r:Int)] 182);exact hb.grown ew hb.size (λk hk=>((uh HRB).lt k hk).1))
          clear iL ew jM;go_wp2_with fail
          go_roundw
          case rel=>exact⟨k+1,by omega,by go_num,HN⟩
          case measure=>simp[intOf];omega
         .go_wp2_with fail
          go_roundw
          case rel=>exact⟨k+1,by omega,by go_num,ab (by rw[uh NO (by rw[uh HP,dU];rfl)];exact⟨uh HRB,uh gb⟩)⟩
          case measure=>simp[intOf];omega
      .have hd:decide ((k:Int)<(f.ap.length:Int))=false:=(by simp;omega);have kI:k=f.ap.length:=(by omega);have hbw:=(uh S1).trans ((uh hI).2.mono (uh S1).size);have hs:ar (Value.slice aa f.ap.length ac).ownBlock.toList w (Value.slice ra ((f.ap.take k).filter (yh f)).length rc).ownBlock.toList wr:=(ar.ofBw (F:=(Value.slice aa f.ap.length ac).ownBlock.toList) hbw).foots (λj hj=>zq1 (zq3 (uh S1).size ((uh hI).1.lt j (by simpa using hj)).1));have hN:=(uh H).newAv (ap':=(f.ap.take k).filter (yh f)) hs (v':=.slice ra ((f.ap.take k).filter (yh f)).length rc) (λj hj=>by simpa using hj) (dZ (uh hI).1 (zq5 _));have HN:=ab hN;have HE:Hid (cK f={ f with ap:=(f.ap.take k).filter (yh f) }):=ab (by unfold cK;rw[kI,take_length]);have c5:=hF.c5;have f5:=ownsRow.frozenAt hF.ob 5;clear hs hN kI hF hbw hdo;go_wp2_with fail
       go_end0
       exact⟨rfl,_,by rw[uh HE];exact(uh HN).1,(uh HN).2⟩
end
def EO(ms:List Nat):List Value:=(ms++replicate (24-ms.length) 0).map (λn=>Value.int .i64 (n:Nat))++((range 24).map (λc=>Value.int .i64 (C1 ms c:Nat))++[Value.int .i64 (ms.length:Nat)])
theorem Gu{ms:List Nat}(h:ms.length<=24){k:Nat}(hk:k<24):(EO ms)[k]?=some (.int .i64 ((ms.getD k 0:Nat):Int)):=by
 unfold EO;rw[getElem?_append_left (by simp;omega),getElem?_map,getD_eq_getElem?_getD];by_cases hl:k<ms.length
 .rw[getElem?_append_left hl,getElem?_eq_getElem hl];rfl
 .rw[getElem?_append_right (by omega),getElem?_replicate,if_pos (by omega),getElem?_eq_none (by omega)];rfl
theorem wK{ms:List Nat}(h:ms.length<=24){c:Nat}(hc:c<24):(EO ms)[24+c]?=some (.int .i64 ((C1 ms c:Nat):Int)):=by
 unfold EO;have e:((ms++replicate (24-ms.length) 0).map (λn=>Value.int .i64 ((n:Nat):Int))).length=24:=by simp;omega
 rw[getElem?_append_right (by omega),e,Nat.add_sub_cancel_left,getElem?_append_left (by simpa using hc),getElem?_map,getElem?_range hc];rfl
theorem wJ{ms:List Nat}(h:ms.length<=24):(EO ms)[48]?=some (.int .i64 ((ms.length:Nat):Int)):=by
 unfold EO;have e:((ms++replicate (24-ms.length) 0).map (λn=>Value.int .i64 ((n:Nat):Int))).length=24:=by simp;omega
 rw[getElem?_append_right (by omega),e,getElem?_append_right (by simp)];simp
theorem Gt{ms:List Nat}(h:ms.length<=24):(EO ms).length=49:=by unfold EO;simp;omega
theorem Uc{ms:List Nat}{c d:Nat}(hc:c ∉ ms):C1 (ms++[c]) d=if d=c then ms.length+1 else C1 ms d:=by
 unfold C1;by_cases hd:d=c
 .subst hd;rw[if_pos (by simp),if_pos rfl,idxOf_append,if_neg hc];simp
 .rw[if_neg hd];by_cases hm:d∈ms
  .rw[if_pos (by simp[hm]),if_pos hm,idxOf_append,if_pos hm]
  .rw[if_neg (by simp[hm,hd]),if_neg hm]
theorem abc{ms:List Nat}{c:Nat}(hl:ms.length<24)(hc:c<24)(hn:c ∉ ms):(((EO ms).set ms.length (.int .i64 (c:Int))).set 48 (.int .i64 ((ms.length+1:Nat):Int))).set (24+c) (.int .i64 ((ms.length+1:Nat):Int))=EO (ms++[c]):=by
 refine ext_getElem? (λj=>?_);have l1:=Gt (ms:=ms) (by omega);have l2:=Gt (ms:=ms++[c]) (by simp;omega);simp only[getElem?_set,length_set,l1];by_cases hj:j<49
 .by_cases h1:j<24
  .rw[Gu (ms:=ms++[c]) (by simp;omega) h1,if_neg (by omega),if_neg (by omega)];by_cases h2:ms.length=j
   .subst h2;rw[if_pos rfl,if_pos (by omega),getD_eq_getElem?_getD,getElem?_append_right (zq4 _)];simp
   .rw[if_neg h2,Gu (ms:=ms) (by omega) h1];have e:ms.getD j 0=(ms++[c]).getD j 0:=by
     rw[getD_eq_getElem?_getD,getD_eq_getElem?_getD];by_cases h3:j<ms.length
     .rw[getElem?_append_left h3]
     .rw[getElem?_eq_none (by omega),getElem?_eq_none (by simp;omega)]
    rw[e]
  .by_cases h2:j=48
   .subst h2;rw[wJ (ms:=ms++[c]) (by simp;omega),if_neg (by omega),if_pos rfl,if_pos (by omega)];simp
   .obtain⟨d,hd⟩:∃d,j=24+d:=⟨j-24,by omega⟩;subst hd;rw[wK (ms:=ms++[c]) (by simp;omega) (by omega),Uc hn];by_cases h3:d=c
    .subst h3;rw[if_pos rfl,if_pos (by omega),if_pos rfl]
    .rw[if_neg (by omega),if_neg (by omega),if_neg (by omega),wK (ms:=ms) (by omega) (by omega),if_neg h3]
 .rw[if_neg (by omega),if_neg (by omega),if_neg (by omega),getElem?_eq_none (by omega),getElem?_eq_none (by omega)]
structure Nu(w:World)(N:Nat)(ms:List Nat):Prop where
 ob:Ob w 290 49 N (EO ms)
 ok:er ms
section
variable {w w':World} {N:Nat} {ms:List Nat}
theorem Nu.of_eq(h:Nu w N ms)(he:w'.heap[N]?=w.heap[N]?):Nu w' N ms:=⟨h.ob.of_eq he,h.ok⟩
theorem Nu.ltN(h:Nu w N ms):N<w.heap.size:=(ownsRow.lt h.ob N rfl).2
theorem Nu.below(h:Nu w N ms)(hb:Below w.heap.size w w'):Nu w' N ms:=h.of_eq (hb.block N h.ltN)
theorem Nu.old(h:Nu w N ms){k:Nat}(hk:k<24):w.cell? ⟨N,k,none⟩=some (.int .i64 ((ms.getD k 0:Nat):Int)):=(ownsRow.cellAt h.ob k (by omega)).trans (Gu h.ok.len hk)
theorem Nu.fresh(h:Nu w N ms){c:Nat}(hc:c<24):w.cell? ⟨N,24+c,none⟩=some (.int .i64 ((C1 ms c:Nat):Int)):=(ownsRow.cellAt h.ob (24+c) (by omega)).trans (wK h.ok.len hc)
theorem Nu.count(h:Nu w N ms):w.cell? ⟨N,48,none⟩=some (.int .i64 ((ms.length:Nat):Int)):=(ownsRow.cellAt h.ob 48 (by omega)).trans (wJ h.ok.len)
theorem Nu.frz(h:Nu w N ms)(j:Nat):w.frozen? ⟨N,j,none⟩=false:=ownsRow.frozenAt h.ob j
theorem wF(h:Nu w N ms){c:Nat}(hc:c<24):Calls prog 223 #[.pointer (some ⟨N,0,none⟩),.int .i64 c] w λe w'=>e=.returned (.tuple #[])/\Nu w' N (iU ms c)/\ar [N] w [N] w':=by
 have lR:=h.fresh hc;have ID:=h.count;have hz:=h.frz;by_cases hm:c∈ms
 .have aav:0<C1 ms c:=by unfold C1;rw[if_pos hm];omega
  obtain⟨x,hx⟩:∃x,x=C1 ms c:=⟨_,rfl⟩;rw[<-hx]at lR aav;have hd:decide ((0:Int)<(x:Int))=true:=by simp;omega
  have HE:Hid (iU ms c=ms):=ab (by unfold iU;rw[if_pos hm]);have H:=ab h;clear h hx hm hz ID;go_enter func223,ntmps223;go_wp2_with fail
  refine bodyPost_ret (v:=.tuple #[]) (by simp[results,Tryz.f223]) rfl ?_;exact⟨rfl,by rw[uh HE];exact uh H,ar.refl _ _⟩
 .have hx:C1 ms c=0:=by unfold C1;rw[if_neg hm]
  rw[hx]at lR;have hl:ms.length<24:=by
   have h1:=(h.ok.me hc).len;unfold iU at h1;rw[if_neg hm,length_append,length_singleton]at h1;omega
  have o1:=h.ob.stored ms.length (.int .i64 (c:Int));have o2:=o1.stored 48 (.int .i64 ((ms.length+1:Nat):Int));have o3:=o2.stored (24+c) (.int .i64 ((ms.length+1:Nat):Int));rw[abc hl hc hm]at o3;have c2:=ownsRow.cellAt o1 48 (by omega);rw[getElem?_set,if_neg (by omega),wJ (by omega)]at c2;have f2:=ownsRow.frozenAt o1 48;have c3:=ownsRow.cellAt o2 48 (by omega);rw[getElem?_set,if_pos rfl,if_pos (by rw[length_set,Gt (by omega)];omega)]at c3;obtain⟨⟨u4,c4⟩,f4⟩:=o2.some (j:=24+c) (by omega);obtain⟨⟨u5,c5⟩,f5⟩:=h.ob.some (j:=ms.length) (by omega);have di:Hid (ar [N] w [N] (((w.setCell ⟨N,ms.length,none⟩ (.int .i64 (c:Int))).setCell ⟨N,48,none⟩ (.int .i64 ((ms.length+1:Nat):Int))).setCell ⟨N,24+c,none⟩ (.int .i64 ((ms.length+1:Nat):Int)))):=ab ((((ar.refl [N] w).setCell (p:=⟨N,ms.length,none⟩) (zq0 (by simp)) _).setCell (p:=⟨N,48,none⟩) (zq0 (by simp)) _).setCell (p:=⟨N,24+c,none⟩) (zq0 (by simp)) _);have HN:Hid (Nu (((w.setCell ⟨N,ms.length,none⟩ (.int .i64 (c:Int))).setCell ⟨N,48,none⟩ (.int .i64 ((ms.length+1:Nat):Int))).setCell ⟨N,24+c,none⟩ (.int .i64 ((ms.length+1:Nat):Int))) N (iU ms c)):=ab (by
   have e:iU ms c=ms++[c]:=(by unfold iU;rw[if_neg hm]);have h1:=h.ok.me hc;rw[e]at h1 ⊢;exact⟨o3,h1⟩)
  obtain⟨n,hn⟩:∃n,n=ms.length:=⟨_,rfl⟩;rw[<-hn]at ID hl c2 f2 c3 c4 f4 c5 f5 di HN;rw[show((n+1:Nat):Int)=(n:Int)+1 by omega]at c3 c4 f4 di HN;have hd:decide ((0:Int)<0)=false:=by decide
  clear o1 o2 o3 h hx hm hn hz;go_enter func223,ntmps223;go_wp2_with fail
  go_region
  go_wp2_with fail
  go_region
  go_wp2_with fail
  go_end0
  exact⟨rfl,(uh HN).of_eq rfl,(uh di).drew.drew⟩
end
section
variable {w:World} {A N:Nat} {f:CF} {av ov:Value} {ms:List Nat}
theorem xp(hF:eQ w A f av ov)(hN:Nu w N ms)(hd:∀k∈aG A av ov,k≠N)(hO:∀p∈f.ow,p.l<24/\p.r<24){k0:Nat}(hk0:k0<=24):Calls prog 224 #[.pointer (some ⟨A,0,none⟩),.pointer (some ⟨N,0,none⟩),.int .i64 k0] w λe w'=>e=.returned (.tuple #[])/\Nu w' N (pm f 25 k0 ms)/\ar [N] w [N] w':=by
 have HF:=ab hF;have HD:=ab hd;have HO:=ab hO;obtain⟨R,hR⟩:∃R,R=pm f 25 k0 ms:=⟨_,rfl⟩;have cG:Hid (Nu w N ms/\pm f 25 k0 ms=R/\ar [N] w [N] w):=ab ⟨hN,hR.symm,ar.refl _ _⟩;rw[<-hR];clear hF hN hd hO hR;go_enter func224,ntmps224;go_wp2_with fail
 go_loopw [6] (λi wx=>∃(k n:Nat) (ml:List Nat),k<=24/\24<n+k/\i=.int .i64 k/\Hid (Nu wx N ml/\pm f n k ml=R/\ar [N] w [N] wx)) (λi _=>25-(intOf i).toNat)
 case atStart=>exact⟨k0,25,ms,hk0,by omega,rfl,cG⟩
 case round =>
  clear cG;obtain⟨k,n,ml,hk,hn,rfl,hI⟩:=hrel;have ID:=(uh hI).1.count;have fJ:=(uh hI).1.ok.len;by_cases au:k<ml.length
  .have hd:decide ((k:Int)<(ml.length:Int))=true:=(by simp;omega);have iJ:=(uh hI).1.old (k:=k) (by omega);have af7:k<24:=(by omega);obtain⟨n',rfl⟩:∃n',n=n'+1:=⟨n-1,by omega⟩;have aP:pm f n' (k+1) (zQ f k ml)=R:=by
    have:=(uh hI).2.1;unfold pm at this;rwa [if_pos au]at this
   have Up:=(uh HF).of_eq (w':=wr) (λj hj=>(uh hI).2.2.block j ((uh HF).lt j hj) (by simpa using uh HD j hj));have HB:=ab (cP (ml.getD k 0) Up);have di:=ab aP;have Tl:Hid (zQ f k ml=match cE f.ow (ml.getD k 0) with|some i=>iU ml (f.ow.getD i ay).r|none=>ml):=ab rfl;obtain⟨c,hc⟩:∃c,c=ml.getD k 0:=⟨_,rfl⟩;rw[<-hc]at iJ HB Tl;have HFr:=ab Up;have HN:=ab (uh hI).1;have HP:=ab (uh hI).2.2;obtain⟨L,hL⟩:∃L,L=ml.length:=⟨_,rfl⟩;rw[<-hL]at ID hd au;clear aP Up hc hI hL fJ;go_wp2_with fail
   refine(uh HB).mono ?_;rintro e w1 ⟨rfl,rfl⟩;have hg:=sF (cE f.ow c);cases hb:cE f.ow c with
   |none =>
    rw[hb]at hg Tl;have dh:Hid (zQ f k ml=ml):=ab (uh Tl);clear Tl;go_wp2_with fail
    go_roundw
    case rel=>exact⟨k+1,n',ml,by omega,by omega,by go_num,ab ⟨uh HN,by have:=uh di;rw[uh dh]at this;exact this,uh HP⟩⟩
    case measure=>simp[intOf];omega
   |some i =>
    rw[hb]at hg Tl;have dh:Hid (zQ f k ml=iU ml (f.ow.getD i ay).r):=ab (uh Tl);clear Tl;obtain⟨hi,-⟩:=eU hb;have c6:=(uh HFr).c6;obtain⟨g,cap,dF,-,-⟩:=aE (uh HFr).ow hi;subst dF;obtain⟨x0,x1,x2⟩:=aB (uh HFr).ow hi;have xW:=(uh HO (f.ow.getD i ay) (aY hi)).2;obtain⟨p,hp⟩:∃p,p=f.ow.getD i ay:=⟨_,rfl⟩;rw[<-hp]at x0 x1 x2 xW dh;have HM:=ab (wF (uh HN) xW);rw[show fV (some i)=(i:Int) from rfl]at hg ⊢;have i1:(0:Int)<=(i:Int):=(by omega);have i2:(i:Int)<(f.ow.length:Int):=(by omega);clear hp hb;go_wp2_with fail
    refine(uh HM).mono ?_;rintro e w2 ⟨rfl,C5,gT⟩;have Ep:=ab C5;have HP2:=ab ((uh HP).trans gT);clear C5 gT;go_wp2_with fail
    go_roundw
    case rel=>exact⟨k+1,n',_,by omega,by omega,by go_num,ab ⟨uh Ep,by have:=uh di;rw[uh dh]at this;exact this,uh HP2⟩⟩
    case measure=>simp[intOf];omega
  .have hd:decide ((k:Int)<(ml.length:Int))=false:=(by simp;omega);have HE:Hid (ml=R):=ab (by
    have:=(uh hI).2.1;cases n with
    |zero=>exact this
    |succ n=>unfold pm at this;rwa [if_neg au]at this)
   go_wp2_with fail
   go_end0
   exact⟨rfl,by rw[<-uh HE];exact(uh hI).1,(uh hI).2.2⟩
end
section
variable {w:World} {N:Nat} {v:Value} {l:List Pr} {ms:List Nat}
theorem yQ(h:w.ownsRow 0 182 3 v l.length (af l))(hN:Nu w N ms)(hv:v.ownBlock≠some N)(hm:∀p∈l,p.l∈ms/\p.r∈ms)(hl:l.length<=100000):
  Calls prog 225 #[.pointer (some ⟨N,0,none⟩),v] w λe w'=>e=.returned (.tuple #[])/\w'.ownsRow 0 182 3 v l.length (af (l.map (jm ms)))/\ar v.ownBlock.toList w v.ownBlock.toList w':=by
 obtain⟨va,vc,hv',PQ,UQ⟩:=am h;subst hv';have ve:Hid (w.ownsRow 0 182 3 (.slice va l.length vc) l.length (af (bJ (jm ms) l 0))/\ar (Value.slice va l.length vc).ownBlock.toList w (Value.slice va l.length vc).ownBlock.toList w):=ab ⟨by simpa[bJ] using h,ar.refl _ _⟩;have HN:=ab hN;have HV:=ab hv;have HM:=ab hm;clear h hN hv hm;go_enter func225,ntmps225;go_wp2_with fail
 go_loopw [4] (λi wx=>∃(k:Nat),k<=l.length/\i=.int .i64 k/\Hid (wx.ownsRow 0 182 3 (.slice va l.length vc) l.length (af (bJ (jm ms) l k))/\ar (Value.slice va l.length vc).ownBlock.toList w (Value.slice va l.length vc).ownBlock.toList wx)) (λi _=>l.length-(intOf i).toNat)
 case atStart=>exact⟨0,zq5 _,rfl,ve⟩
 case round =>
  clear ve;obtain⟨k,hk,rfl,hI⟩:=hrel;by_cases au:k<l.length
  .have hd:decide ((k:Int)<(l.length:Int))=true:=(by simp;omega);obtain⟨g,cap,dF,-,-,-⟩:=b9 (uh hI).1 (by omega);simp only[Value.slice.injEq,true_and]at dF;obtain⟨rfl,rfl⟩:=dF;have hgN:g≠N:=λe=>uh HV (by rw[e];rfl);have Ur:Nu wr N ms:=(uh HN).of_eq ((uh hI).2.block N (uh HN).ltN (by simpa[Value.ownBlock] using λe=>hgN e.symm));have hK:=lA (g:=jm ms) au;have hr:=(uh hI).1;have dO:=jU (jm ms) l k;have ut:wr.ownsRow 0 182 3 (.slice (some ⟨g,0,none⟩) (bJ (jm ms) l k).length vc) (bJ (jm ms) l k).length (af (bJ (jm ms) l k)):=(by rw[dO];exact hr);obtain⟨-,x1,x2⟩:=aB ut (i:=k) (by omega);obtain⟨k7,xW⟩:=uh HM (l.getD k ay) (aY au);have aP:=lB (g:=jm ms) au;rw[hK]at x1 x2;obtain⟨p,hp⟩:∃p,p=l.getD k ay:=⟨_,rfl⟩;rw[<-hp]at x1 x2 k7 xW aP hK;have f1:=hr.frozenAt (k*3+1);have f2:=hr.frozenAt (k*3+2);have q1:=Ur.fresh (Ur.ok.2 p.l k7);have q2:=Ur.fresh (Ur.ok.2 p.r xW);have e1:C1 ms p.l=ms.idxOf p.l+1:=(by unfold C1;rw[if_pos k7]);have e2:C1 ms p.r=ms.idxOf p.r+1:=(by unfold C1;rw[if_pos xW]);rw[e1]at q1;rw[e2]at q2;have b1:=ng Ur.ok k7;have b2:=ng Ur.ok xW;have b3:=Ur.ok.2 p.l k7;have b4:=Ur.ok.2 p.r xW;obtain⟨x,hx⟩:∃x,x=ms.idxOf p.l:=⟨_,rfl⟩;obtain⟨y,hy⟩:∃y,y=ms.idxOf p.r:=⟨_,rfl⟩;rw[<-hx]at q1 b1;rw[<-hy]at q2 b2;rw[show((x+1:Nat):Int)=(x:Int)+1 by omega]at q1;rw[show((y+1:Nat):Int)=(y:Int)+1 by omega]at q2;have i1:(0:Int)<=(k:Int):=(by omega);have i2:(k:Int)<(l.length:Int):=(by omega);have s1:(wr.setCell ⟨g,k*3+1,none⟩ (.int .i64 (x:Int))).ownsRow 0 182 3 (.slice (some ⟨g,0,none⟩) l.length vc) l.length (af ((bJ (jm ms) l k).set k ⟨p.k,x,p.r⟩)):=by
    have:=(hr.stored (k*3+1) (.int .i64 (x:Int))).1;rw[jp (by omega),hK]at this;exact this
   have s2:((wr.setCell ⟨g,k*3+1,none⟩ (.int .i64 (x:Int))).setCell ⟨g,k*3+2,none⟩ (.int .i64 (y:Int))).ownsRow 0 182 3 (.slice (some ⟨g,0,none⟩) l.length vc) l.length (af (bJ (jm ms) l (k+1))):=by
    have:=(s1.stored (k*3+2) (.int .i64 (y:Int))).1;rw[fy (by simp;omega)]at this;rw[aP];have e:jm ms p=⟨p.k,x,y⟩:=(by unfold jm;rw[<-hx,<-hy]);rw[e];simpa[dO,au] using this
   have y2:(wr.setCell ⟨g,k*3+1,none⟩ (.int .i64 (x:Int))).cell? ⟨g,k*3+2,none⟩=some (.int .i64 (p.r:Int)):=by
    rw[cell?_setCell_other _ _ _ _ (by simp)];exact x2
   have z2:=s1.frozenAt (k*3+2);have q2':(wr.setCell ⟨g,k*3+1,none⟩ (.int .i64 (x:Int))).cell? ⟨N,24+p.r,none⟩=some (.int .i64 ((y:Int)+1)):=by
    rw[cell?_setCell_other _ _ _ _ (by simp only[ne_eq,Addr.mk.injEq,not_and];intro e;exact absurd e hgN)];exact q2
   have HS:=ab s2;have di:Hid (ar (Value.slice (some ⟨g,0,none⟩) l.length vc).ownBlock.toList w (Value.slice (some ⟨g,0,none⟩) l.length vc).ownBlock.toList ((wr.setCell ⟨g,k*3+1,none⟩ (.int .i64 (x:Int))).setCell ⟨g,k*3+2,none⟩ (.int .i64 (y:Int)))):=ab (((uh hI).2.setCell (p:=⟨g,k*3+1,none⟩) (zq0 (by simp[Value.ownBlock])) _).setCell (p:=⟨g,k*3+2,none⟩) (zq0 (by simp[Value.ownBlock])) _);clear hr ut hK dO hp s1 s2 hI aP Ur k7 xW e1 e2 hx hy hgN;go_wp2_with fail
   go_region
   go_wp2_with fail
   go_region
   go_wp2_with fail
   go_roundw
   case rel=>exact⟨k+1,by omega,by go_num,ab ⟨(uh HS).drew.drew,(uh di).drew.drew⟩⟩
   case measure=>simp[intOf];omega
  .have hd:decide ((k:Int)<(l.length:Int))=false:=(by simp;omega);have HE:Hid (bJ (jm ms) l k=l.map (jm ms)):=ab (wy (by omega));go_wp2_with fail
   go_end0
   exact⟨rfl,by rw[<-uh HE];exact(uh hI).1,(uh hI).2⟩
end
def Kk(g:Nat->Nat)(c:List Nat)(k:Nat):List Nat:=(c.take k).map g++c.drop k
theorem Nv{g:Nat->Nat}{c:List Nat}{k:Nat}(hk:k<c.length):Kk g c (k+1)=(Kk g c k).set k (g (c.getD k 0))/\(Kk g c k).getD k 0=c.getD k 0:=by
 unfold Kk;have e:c.drop k=c[k]::c.drop (k+1):=drop_eq_getElem_cons hk;have e0:c.getD k 0=c[k]:=by simp[hk]
 have e2:(c.take (k+1)).map g=(c.take k).map g++[g c[k]]:=by
  rw[take_add_one,getElem?_eq_getElem hk,map_append];rfl
 have e3:((c.take k).map g).length=k:=by simp;omega
 refine⟨?_,?_⟩
 .rw[e2,e,set_append_right _ _ (by omega),e3,Nat.sub_self,set_cons_zero,append_assoc,e0];rfl
 .rw[getD_eq_getElem?_getD,getElem?_append_right (by omega),e3,Nat.sub_self,e,e0];rfl
theorem jK{α:Type}{g:α->Pr->α}{a:α}{l:List Pr}{k:Nat}(hk:k<l.length):(l.take (k+1)).foldl g a=g ((l.take k).foldl g a) (l.getD k ay):=by
 rw[j7 hk,take_add_one,getElem?_eq_getElem hk,foldl_append];rfl
theorem abb:EO []=replicate 49 (Value.int .i64 0):=rfl
theorem aba(w:World):Nu (w.alloc (.cells (EO []).toArray 290)) w.heap.size [] :=
 ⟨ownsRow_lit (base:=0) (e:=290) (size:=49) w (EO []).toArray 1 (zq5 _) (by simp[maxLen]) rfl,er.nil⟩
section
variable {w:World} {A:Nat} {f:CF} {av ov:Value}
theorem BS(h:Fm w A f av ov)(hO:aj f)(hl:∀p∈f.ap,p.l∈bM f/\p.r∈bM f)(ha:f.ap.length<=100000):Calls prog 198 #[.pointer (some ⟨A,0,none⟩)] w λe w'=>e=.returned (.tuple #[])/\Fm w' A (wX f) av ov/\ar (aG A av ov) w (aG A av ov) w':=by
 obtain⟨oa,oc,gy,-,-⟩:=am h.is.ow;subst gy;obtain⟨aa,ac,kt,-,-⟩:=am h.is.ap;subst kt;obtain⟨w0,mB⟩:∃w0,w0=w.alloc (.cells (EO []).toArray 290):=⟨_,rfl⟩;have tK:Below w.heap.size w w0:=by rw[mB];exact ah w _
 have hN0:Nu w0 w.heap.size []:=by rw[mB];exact aba w
 have h0:=h.below tK;have aH:∀k∈aG A (.slice aa f.ap.length ac) (.slice oa f.ow.length oc),k≠w.heap.size:=λk hk=>by have:=h.lt k hk;omega
 have x0:=h0.is.cls (i:=0) (by omega);have x1:=h0.is.cls (i:=1) (by omega);have x2:=h0.is.cls (i:=2) (by omega);have x3:=h0.is.cls (i:=3) (by omega);have x4:=h0.is.cls (i:=4) (by omega);unfold hU at x0 x1 x2 x3 x4;have dU:=hO.cl;unfold ko at dU;have hcL:ko f=[f.cl.getD 0 0,f.cl.getD 1 0,f.cl.getD 2 0,f.cl.getD 3 0,f.cl.getD 4 0]:=rfl;obtain⟨y0,e0⟩:∃y,y=f.cl.getD 0 0:=⟨_,rfl⟩;obtain⟨y1,e1⟩:∃y,y=f.cl.getD 1 0:=⟨_,rfl⟩;obtain⟨y2,e2⟩:∃y,y=f.cl.getD 2 0:=⟨_,rfl⟩;obtain⟨y3,e3⟩:∃y,y=f.cl.getD 3 0:=⟨_,rfl⟩;obtain⟨y4,e4⟩:∃y,y=f.cl.getD 4 0:=⟨_,rfl⟩;rw[<-e0,<-e1,<-e2,<-e3,<-e4]at dU hcL;rw[<-e0]at x0;rw[<-e1]at x1;rw[<-e2]at x2;rw[<-e3]at x3;rw[<-e4]at x4;have l0:y0<24:=dU y0 (by simp);have l1:y1<24:=dU y1 (by simp);have l2:y2<24:=dU y2 (by simp);have l3:y3<24:=dU y3 (by simp);have l4:y4<24:=dU y4 (by simp);have j0:=AR (.int .i64 (y0:Int)) (.int .i64 (y1:Int)) (.int .i64 (y2:Int)) (.int .i64 (y3:Int)) (.int .i64 (y4:Int));have j1:=AS (.int .i64 (y0:Int)) (.int .i64 (y1:Int)) (.int .i64 (y2:Int)) (.int .i64 (y3:Int)) (.int .i64 (y4:Int));have j2:=AT (.int .i64 (y0:Int)) (.int .i64 (y1:Int)) (.int .i64 (y2:Int)) (.int .i64 (y3:Int)) (.int .i64 (y4:Int));have j3:=AU (.int .i64 (y0:Int)) (.int .i64 (y1:Int)) (.int .i64 (y2:Int)) (.int .i64 (y3:Int)) (.int .i64 (y4:Int));have j4:=AV (.int .i64 (y0:Int)) (.int .i64 (y1:Int)) (.int .i64 (y2:Int)) (.int .i64 (y3:Int)) (.int .i64 (y4:Int));obtain⟨N,hNe⟩:∃N,N=w.heap.size:=⟨_,rfl⟩;rw[<-hNe]at hN0 aH;have HNe:=ab hNe;have H:=ab h;have H0:=ab h0;have J2:=ab tK;have tY:=ab aH;have xK:=ab hcL;have iJ:=hO.owLen;have HO:=ab hO;have HL:=ab hl;have cG:Hid (Nu w0 N (([y0,y1,y2,y3,y4].take 0).foldl iU [])/\ar [N] w0 [N] w0):=ab ⟨hN0,ar.refl _ _⟩;clear h h0 e0 e1 e2 e3 e4 dU hcL hO hN0 tK aH hl;obtain⟨ag,hag⟩:∃ag,ag=Value.agg (EO []).toArray:=⟨_,rfl⟩;rw[abb]at mB hag;simp only[replicate]at mB hag;go_enter func198,ntmps198;go_upto_region 1 with fail;rw[<-mB,<-hag,<-hNe];clear mB hNe hag;go_wp2_with fail
 go_loopw [15] (λi wx=>∃(k:Nat),k<=5/\i=.int .i64 k/\Hid (Nu wx N (([y0,y1,y2,y3,y4].take k).foldl iU [])/\ar [N] w0 [N] wx)) (λi _=>5-(intOf i).toNat)
 case atStart=>exact⟨0,zq5 _,rfl,cG⟩
 case round =>
  clear cG x0 x1 x2 x3 x4;obtain⟨k,hk,rfl,hI⟩:=hrel;obtain⟨m,hm⟩:∃m,m=([y0,y1,y2,y3,y4].take k).foldl iU []:=⟨_,rfl⟩;have HM:=ab hm;rw[<-hm]at hI;clear hm;have B8:Hid (∀c:Nat,c<24->Calls prog 223 #[.pointer (some ⟨N,0,none⟩),.int .i64 c] wr λe w'=>e=.returned (.tuple #[])/\Nu w' N (iU m c)/\ar [N] w0 [N] w'):=ab (λc hc=>(wF (uh hI).1 hc).mono (λe w' hw=>⟨hw.1,hw.2.1,(uh hI).2.trans hw.2.2⟩));have vT:k=0\/k=1\/k=2\/k=3\/k=4\/k=5:=by omega
  rcases vT with rfl|rfl|rfl|rfl|rfl|rfl
  .go_wp2_with fail
   refine(uh B8 y0 l0).mono ?_;rintro e w1 ⟨rfl,rI,dA⟩;have L4:Hid (Nu w1 N (([y0,y1,y2,y3,y4].take 1).foldl iU [])/\ar [N] w0 [N] w1):=ab ⟨by rw[uh HM]at rI;exact rI,dA⟩;clear rI dA;go_wp2_with fail
   go_roundw
   case rel=>exact⟨1,by omega,by go_num,L4⟩
   case measure=>simp[intOf]
  .go_wp2_with fail
   refine(uh B8 y1 l1).mono ?_;rintro e w1 ⟨rfl,rI,dA⟩;have L4:Hid (Nu w1 N (([y0,y1,y2,y3,y4].take 2).foldl iU [])/\ar [N] w0 [N] w1):=ab ⟨by rw[uh HM]at rI;exact rI,dA⟩;clear rI dA;go_wp2_with fail
   go_roundw
   case rel=>exact⟨2,by omega,by go_num,L4⟩
   case measure=>simp[intOf]
  .go_wp2_with fail
   refine(uh B8 y2 l2).mono ?_;rintro e w1 ⟨rfl,rI,dA⟩;have L4:Hid (Nu w1 N (([y0,y1,y2,y3,y4].take 3).foldl iU [])/\ar [N] w0 [N] w1):=ab ⟨by rw[uh HM]at rI;exact rI,dA⟩;clear rI dA;go_wp2_with fail
   go_roundw
   case rel=>exact⟨3,by omega,by go_num,L4⟩
   case measure=>simp[intOf]
  .go_wp2_with fail
   refine(uh B8 y3 l3).mono ?_;rintro e w1 ⟨rfl,rI,dA⟩;have L4:Hid (Nu w1 N (([y0,y1,y2,y3,y4].take 4).foldl iU [])/\ar [N] w0 [N] w1):=ab ⟨by rw[uh HM]at rI;exact rI,dA⟩;clear rI dA;go_wp2_with fail
   go_roundw
   case rel=>exact⟨4,by omega,by go_num,L4⟩
   case measure=>simp[intOf]
  .go_wp2_with fail
   refine(uh B8 y4 l4).mono ?_;rintro e w1 ⟨rfl,rI,dA⟩;have L4:Hid (Nu w1 N (([y0,y1,y2,y3,y4].take 5).foldl iU [])/\ar [N] w0 [N] w1):=ab ⟨by rw[uh HM]at rI;exact rI,dA⟩;clear rI dA;go_wp2_with fail
   go_roundw
   case rel=>exact⟨5,by omega,by go_num,L4⟩
   case measure=>simp[intOf]
  .rw[show((5:Nat):Int)=(5:Int) from rfl];have Ct:m=(ko f).foldl iU []:=(by rw[uh HM,uh xK];rfl);have gg:=(uh H0).is.of_eq (w':=wr) (λj hj=>(uh hI).2.block j ((uh H0).lt j hj) (by simpa using uh tY j hj));have L7:=ab (xp gg (uh hI).1 (uh tY) (uh HO).ow (k0:=0) (by omega));have di:=ab (uh hI).2;rw[Ct]at L7;clear j0 j1 j2 j3 j4 l0 l1 l2 l3 l4 Ct gg hI HM B8;go_wp2_with fail
   refine(uh L7).mono ?_;rintro e w1 ⟨rfl,rI,dA⟩;have oX:=(uh di).trans dA;have gg:=(uh H0).is.of_eq (w':=w1) (λj hj=>oX.block j ((uh H0).lt j hj) (by simpa using uh tY j hj));have c6:=gg.c6;obtain⟨M1,hM1⟩:∃M1,M1=pm f 25 0 ((ko f).foldl iU []):=⟨_,rfl⟩;have HM1:=ab hM1;rw[<-hM1]at rI;have fH:Hid (Nu w1 N ((f.ow.take 0).foldl (zI f) M1)/\ar [N] w0 [N] w1):=ab ⟨rI,oX⟩;clear rI dA oX gg L7 hM1 di;go_wp2_with fail
   go_loopw [30] (λi wx=>∃(k:Nat),k<=f.ow.length/\i=.int .i64 k/\Hid (Nu wx N ((f.ow.take k).foldl (zI f) M1)/\ar [N] w0 [N] wx)) (λi _=>f.ow.length-(intOf i).toNat)
   case atStart=>exact⟨0,zq5 _,rfl,fH⟩
   case round =>
    clear fH c6;obtain⟨k,hk,rfl,hI⟩:=hrel;have gg:=(uh H0).is.of_eq (w':=wr) (λj hj=>(uh hI).2.block j ((uh H0).lt j hj) (by simpa using uh tY j hj));by_cases au:k<f.ow.length
    .have hd:decide ((k:Int)<(f.ow.length:Int))=true:=(by simp;omega);obtain⟨g,cap,dF,-,-⟩:=aE gg.ow au;simp only[Value.slice.injEq,true_and]at dF;obtain⟨rfl,rfl⟩:=dF;obtain⟨x0,x1,x2⟩:=aB gg.ow au;have k7:=((uh HO).ow _ (aY au)).1;have qq:=jK (g:=zI f) (a:=M1) au;obtain⟨p,hp⟩:∃p,p=f.ow.getD k ay:=⟨_,rfl⟩;rw[<-hp]at x0 x1 x2 k7 qq;obtain⟨m,hm⟩:∃m,m=(f.ow.take k).foldl (zI f) M1:=⟨_,rfl⟩;rw[<-hm]at hI qq;obtain⟨-,n1,-⟩:=Gs wr (Value.int .i64 p.k) (.int .i64 p.l) (.int .i64 p.r) 182;have Sv:=(uh hI).1.below (ah wr (.cells #[Value.int .i64 p.k,.int .i64 p.l,.int .i64 p.r] 182));have ID:=Sv.count;have fJ:=Sv.ok.len;have B8:=ab (wF Sv k7);have Gc:ar [N] w0 [N] (wr.alloc (.cells #[Value.int .i64 p.k,.int .i64 p.l,.int .i64 p.r] 182)):=(uh hI).2.trans (ar.ofBw (ah wr _));have yI:=ab Gc;have LZ:=ab qq;have i1:(0:Int)<=(k:Int):=(by omega);have i2:(k:Int)<(f.ow.length:Int):=(by omega);obtain⟨L,hL⟩:∃L,L=m.length:=⟨_,rfl⟩;have HLm:=ab hL;rw[<-hL]at ID fJ;clear hp hm Sv Gc qq gg hI hL;go_wp2_with fail
     refine(uh B8).mono ?_;rintro e w2 ⟨rfl,C5,gT⟩;have aaC:=(uh yI).trans gT;have pq:=(uh H0).is.of_eq (w':=w2) (λj hj=>aaC.block j ((uh H0).lt j hj) (by simpa using uh tY j hj));have L7:=ab (xp pq C5 (uh tY) (uh HO).ow (k0:=L) fJ);have dh:=ab aaC;clear C5 gT aaC pq B8 yI n1 ID;go_wp2_with fail
     refine(uh L7).mono ?_;rintro e w3 ⟨rfl,Cl,gj⟩;have HN3:Hid (Nu w3 N ((f.ow.take (k+1)).foldl (zI f) M1)/\ar [N] w0 [N] w3):=ab ⟨by
      rw[uh LZ];unfold zI;rw[uh HLm]at Cl;exact Cl,(uh dh).trans gj⟩
     clear Cl gj L7 dh;go_wp2_with fail
     go_roundw
     case rel=>exact⟨k+1,by omega,by go_num,HN3⟩
     case measure=>simp[intOf];omega
    .have hd:decide ((k:Int)<(f.ow.length:Int))=false:=(by simp;omega);have kI:k=f.ow.length:=(by omega);have Dt:(f.ow.take k).foldl (zI f) M1=dg f:=(by rw[kI,take_length,uh HM1];rfl);rw[Dt]at hI;obtain⟨R,hR⟩:∃R,R=dg f:=⟨_,rfl⟩;rw[<-hR]at hI;have HR:=ab hR;have hFm:Fm wr A f (.slice aa f.ap.length ac) (.slice oa f.ow.length oc):=(uh H0).of_eq (λj hj=>(uh hI).2.block j ((uh H0).lt j hj) (by simpa using uh tY j hj));have ja:Hid (Fm wr A { f with cl:=Kk (λc=>R.idxOf c) f.cl 0 } (.slice aa f.ap.length ac) (.slice oa f.ow.length oc)/\Nu wr N R/\ar (N::aG A (.slice aa f.ap.length ac) (.slice oa f.ow.length oc)) w0 (N::aG A (.slice aa f.ap.length ac) (.slice oa f.ow.length oc)) wr):=ab ⟨by simpa[Kk] using hFm,(uh hI).1,(uh hI).2.wide (λj hj=>by rw[mem_singleton]at hj;subst hj;simp)⟩;clear kI Dt hR hFm gg hI;go_wp2_with fail
     go_loopw [8] (λi wx=>∃(k:Nat),k<=5/\i=.int .i64 k/\Hid (Fm wx A { f with cl:=Kk (λc=>R.idxOf c) f.cl k } (.slice aa f.ap.length ac) (.slice oa f.ow.length oc)/\Nu wx N R/\ar (N::aG A (.slice aa f.ap.length ac) (.slice oa f.ow.length oc)) w0 (N::aG A (.slice aa f.ap.length ac) (.slice oa f.ow.length oc)) wx)) (λi _=>5-(intOf i).toNat)
     case atStart=>exact⟨0,zq5 _,rfl,ja⟩
     case round =>
      clear ja;obtain⟨k,hk,rfl,hI⟩:=hrel;by_cases au:k<5
      .have hd:decide ((k:Int)<(5:Int))=true:=(by simp;omega);have aP:=Nv (g:=λc=>R.idxOf c) (c:=f.cl) (k:=k) (by have:=(uh HO).c5;omega);have AD:=(uh HO).get k;have oU:f.cl.getD k 0∈R:=(by rw[uh HR];exact(rp (uh HO).ow (uh HO).cl).2.2.1 _ (gH au));obtain⟨c,hc⟩:∃c,c=f.cl.getD k 0:=⟨_,rfl⟩;rw[<-hc]at aP AD oU;have x:wr.cell? ⟨A,k,none⟩=some (.int .i64 (c:Int)):=by
        have:=(uh hI).1.is.cls au;unfold hU at this;rw[this];show some (Value.int .i64 (((Kk (λc=>R.idxOf c) f.cl k).getD k 0:Nat):Int))=_;rw[aP.2]
       have fz:wr.frozen? ⟨A,k,none⟩=false:=ownsRow.frozenAt (uh hI).1.is.ob k;have q1:=(uh hI).2.1.fresh AD;have e1:C1 R c=R.idxOf c+1:=(by unfold C1;rw[if_pos oU]);rw[e1]at q1;have wd:=(uh hI).1.setCl k (R.idxOf c) au;rw[show({ f with cl:=Kk (λc=>R.idxOf c) f.cl k }:CF).cl=Kk (λc=>R.idxOf c) f.cl k from rfl,<-aP.1]at wd;have hAN:A≠N:=uh tY A (by simp[aG]);obtain⟨y,hy⟩:∃y,y=R.idxOf c:=⟨_,rfl⟩;rw[<-hy]at q1 wd;have asu:y<24:=(by rw[hy];exact ng (uh hI).2.1.ok oU);rw[show((y+1:Nat):Int)=(y:Int)+1 by omega]at q1;have Ep:Hid (Fm (wr.setCell ⟨A,k,none⟩ (.int .i64 (y:Int))) A { f with cl:=Kk (λc=>R.idxOf c) f.cl (k+1) } (.slice aa f.ap.length ac) (.slice oa f.ow.length oc)/\Nu (wr.setCell ⟨A,k,none⟩ (.int .i64 (y:Int))) N R/\ar (N::aG A (.slice aa f.ap.length ac) (.slice oa f.ow.length oc)) w0 (N::aG A (.slice aa f.ap.length ac) (.slice oa f.ow.length oc)) (wr.setCell ⟨A,k,none⟩ (.int .i64 (y:Int)))):=ab ⟨wd,(uh hI).2.1.of_eq (heap_setCell _ _ _ _ (λe=>hAN e.symm)),(uh hI).2.2.setCell (p:=⟨A,k,none⟩) (zq0 (by simp[aG])) _⟩;have i1:(0:Int)<=(k:Int):=(by omega);have i2:(k:Int)<(5:Int):=(by omega);have i3:(c:Int)<(24:Int):=(by omega);clear aP oU hc e1 wd hy hAN hI;go_wp2_with fail
       go_region
       go_wp2_with fail
       go_roundw
       case rel=>exact⟨k+1,by omega,by go_num,ab ⟨(uh Ep).1.of_eq (λ_ _=>rfl),(uh Ep).2.1.of_eq rfl,(uh Ep).2.2.drew⟩⟩
       case measure=>simp[intOf];omega
      .have hd:decide ((k:Int)<(5:Int))=false:=(by simp;omega);have FT:k=5:=(by omega);have dU:Kk (λc=>R.idxOf c) f.cl k=(ko f).map (λc=>R.idxOf c):=by
        rw[ud (uh HO).c5];unfold Kk;have h5:=(uh HO).c5;rw[take_of_length_le (by omega),drop_eq_nil_of_le (by omega),append_nil]
       rw[dU]at hI;have iw:∀c∈bM f,c∈R:=(by rw[uh HR];exact lI (uh HO).ow (uh HO).cl (uh HO).lf);have Ey:=(uh hI).1;have c6:=Ey.is.c6;have hNE:=uh tY;have Yg:=ab (yQ Ey.is.ow (uh hI).2.1 (λe=>hNE N (by simp only[aG,mem_cons,mem_append,Option.mem_toList];exact zq1 (zq1 e)) rfl) (λp hp=>⟨iw _ (mem_append_right _ (mem_flatMap.2 ⟨p,hp,by simp⟩)),iw _ (mem_append_right _ (mem_flatMap.2 ⟨p,hp,by simp⟩))⟩) (zq3 iJ (by omega)));have HLV:=ab iw;clear dU FT iw Ey hNE;go_wp2_with fail
       refine(uh Yg).mono ?_;rintro e w4 ⟨rfl,Cw,wb⟩;obtain⟨se,agO⟩:=(uh hI).1.newRow (ow':=f.ow.map (jm R)) (by simp) Cw wb;have hNE:=uh tY;have OO:Nu w4 N R:=(uh hI).2.1.of_eq (wb.block N (uh hI).2.1.ltN (λhj=>hNE N (by simp only[aG,mem_cons,mem_append];exact zq1 (zq1 hj)) rfl));have c5:=se.is.c5;have adB:=ab (yQ se.is.ap OO (λe=>hNE N (by simp only[aG,mem_cons,mem_append,Option.mem_toList];exact zq1 (zq0 e)) rfl) (λp hp=>⟨uh HLV _ (uh HL p hp).1,uh HLV _ (uh HL p hp).2⟩) ha);have WA:=ab se;have mF:Hid (ar (N::aG A (.slice aa f.ap.length ac) (.slice oa f.ow.length oc)) w0 (N::aG A (.slice aa f.ap.length ac) (.slice oa f.ow.length oc)) w4):=ab ((uh hI).2.2.trans (agO.wide (λj hj=>mem_cons_of_mem _ hj)));clear Cw wb se agO hNE OO Yg;go_wp2_with fail
       refine(uh adB).mono ?_;rintro e w5 ⟨rfl,AJ,qN⟩;obtain⟨C4,AM⟩:=(uh WA).newRowA (ap':=f.ap.map (jm R)) (by simp) AJ qN;have WB:Hid (Fm w5 A (wX f) (.slice aa f.ap.length ac) (.slice oa f.ow.length oc)):=ab (by unfold wX;rw[<-uh HR];exact C4);have tE:Hid (ar (aG A (.slice aa f.ap.length ac) (.slice oa f.ow.length oc)) w (aG A (.slice aa f.ap.length ac) (.slice oa f.ow.length oc)) w5):=ab (by
        have h1:=(uh mF).trans (AM.wide (λj hj=>mem_cons_of_mem _ hj));have hb:=uh J2;exact⟨h1.os.trans hb.os,h1.tape.trans hb.tape,h1.output.trans hb.output,zq3 hb.size h1.size,λj hj hn=>(h1.block j (zq6 hj hb.size) (by
         rw[mem_cons,not_or];exact⟨by have:=uh HNe;omega,hn⟩)).trans (hb.block j hj),λj hj=>zq0 hj⟩)
       clear AJ qN C4 AM adB;go_wp2_with fail
       go_end0
       exact⟨rfl,uh WB,uh tE⟩
end
