import Derived.Test.YtciihepbeacppaaGreatM11
import Derived.Deep.Cut
import Derived.Deep.CutRange
import Derived.Deep.DeepCutAuto
set_option maxRecDepth 100000
set_option maxHeartbeats 0
namespace Go.Proofs.YtciihepbeacppaaGreat
open Tryz Go.RowKit List World Below
set_option linter.unusedVariables false
def CC(s:Sr)(n:Nat)(P:CF->Prop):Prop:=∃e∈bq s n,P e.f
structure SW(P:CF->Prop):Prop where
 wi:∀{f g:CF},aj f->aj g->Eg f g=true->P f->P g
def sW(s:Sr)(n k:Nat):Bool:=(s.wr.getD n []).getD k false
def Sf(s:Sr):Prop:=s.fu=false/\∀n k,k=2\/k=3\/k=4->sW s n k=false
structure ki(N:Nat)(s:Sr):Prop where
 kn:s.kn.length=N
 wr:s.wr.length=N
 rw:∀r∈s.wr,r.length=5
 td:qo s
structure mR(s s':Sr):Prop where
 fu:s.fu=true->s'.fu=true
 fl:∀n k,sW s n k=true->sW s' n k=true
 kn:∀n P,SW P->CC s n P->CC s' n P
theorem mR.refl(s:Sr):mR s s:=⟨λh=>h,λ_ _ h=>h,λ_ _ _ h=>h⟩
theorem mR.trans{a b c:Sr}(h:mR a b)(h':mR b c):mR a c:=⟨λx=>h'.fu (h.fu x),λn k x=>h'.fl n k (h.fl n k x),λn P hc x=>h'.kn n P hc (h.kn n P hc x)⟩
theorem mR.sf{a b:Sr}(h:mR a b)(hs:Sf b):Sf a:=by
 refine⟨?_,λn k hk=>?_⟩
 .cases hf:a.fu with
  |false=>rfl
  |true=>have:=h.fu hf;rw[hs.1]at this;cases this
 .cases hf:sW a n k with
  |false=>rfl
  |true=>have:=h.fl n k hf;rw[hs.2 n k hk]at this;cases this
section
variable {c:Cd} {N n:Nat} {f:CF} {s:Sr} {cs:List (Int × Int)} {t:Nat->Int}
theorem lw{l:List ig}(hn:n<s.kn.length)(m:Nat):(s.kn.set n l).getD m []=if n=m then l else bq s m:=dq _ _ _ _ _ hn
theorem oh(hf:Td f)(hs:ki N s)(hn:n<N):mR s (bu c n f s)/\ki N (bu c n f s)/\∀P,SW P->P (bH c n f)->CC (bu c n f s) n P:=by
 have uo:qo (bu c n f s):=Bc hf hs.td;have hg:Td (bH c n f):=Bb hf;have gu:n<s.kn.length:=by rw[hs.kn];exact hn
 unfold bu at uo ⊢;split
 .rename_i qG;rw[if_pos qG]at uo;refine⟨⟨λh=>?_,λ_ _ h=>h,λ_ _ _ h=>h⟩,⟨hs.kn,hs.wr,hs.rw,uo⟩,λP hc h=>?_⟩
  .show(s.fu||_)=true;rw[h];rfl
  .obtain⟨e,he,hw⟩:=any_eq_true.1 qG;exact⟨e,he,hc.wi hg.ok (hs.td.at n e he).ok hw h⟩
 .rename_i qG;rw[if_neg qG]at uo;have hkA:∀m,bq (sJ c (pW n (bH c n f) (oY c s (2*(bq s n).length)))) m=if n=m then (bq s n).filter (λe=>!Eg e.f (bH c n f))++[⟨bH c n f,false⟩] else bq s m:=λm=>lw gu m
  refine⟨⟨λh=>?_,λ_ _ h=>h,λm P hc h=>?_⟩,⟨?_,hs.wr,hs.rw,uo⟩,λP hc h=>?_⟩
  .show((s.fu||_)||_)=true;rw[h];rfl
  .obtain⟨e,he,SD⟩:=h;unfold CC;rw[hkA];by_cases e0:n=m
   .subst e0;rw[if_pos rfl];by_cases hw:Eg e.f (bH c n f)=true
    .exact⟨⟨bH c n f,false⟩,by simp,hc.wi (hs.td.at n e he).ok hg.ok hw SD⟩
    .exact⟨e,mem_append_left _ (mem_filter.2 ⟨he,by simpa using hw⟩),SD⟩
   .rw[if_neg e0];exact⟨e,he,SD⟩
  .show(s.kn.set n _).length=N;rw[length_set];exact hs.kn
  .unfold CC;rw[hkA,if_pos rfl];exact⟨⟨bH c n f,false⟩,by simp,h⟩
theorem uu:∀(l:List CF) {s:Sr},bV l->ki N s->n<N->mR s (l.foldl (λs g=>bu c n g s) s)/\ki N (l.foldl (λs g=>bu c n g s) s)
 |[],s,_,h,_=>⟨mR.refl s,h⟩
 |g::l,s,hl,h,hn=>by
  rw[foldl_cons];obtain⟨h1,h2,-⟩:=oh (c:=c) (hl g (by simp)) h hn;obtain⟨h3,h4⟩:=uu l (λx hx=>hl x (by simp[hx])) h2 hn;exact⟨h1.trans h3,h4⟩
theorem nT{k:Nat}(hs:ki N s)(hn:n<N)(hk:k<5)(m j:Nat):sW (kO n k s) m j=if n=m/\k=j then true else sW s m j:=by
 have hw:n<s.wr.length:=by rw[hs.wr];exact hn
 have hr:(s.wr.getD n []).length=5:=by
  rw[getD_eq_getElem?_getD,getElem?_eq_getElem hw];exact hs.rw _ (getElem_mem hw)
 unfold sW;show((s.wr.set n ((s.wr.getD n []).set k true)).getD m []).getD j false=_;rw[dq _ _ _ _ _ hw];by_cases e:n=m
 .subst e;rw[if_pos rfl,dq _ _ _ _ _ (by omega)];by_cases e2:k=j
  .rw[if_pos e2,if_pos ⟨rfl,e2⟩]
  .rw[if_neg e2,if_neg (λh=>e2 h.2)]
 .rw[if_neg e,if_neg (λh=>e h.1)]
theorem xG{k:Nat}(hs:ki N s)(hn:n<N)(hk:k<5):mR s (kO n k s)/\ki N (kO n k s):=by
 refine⟨⟨λh=>h,λm j h=>?_,λ_ _ _ h=>h⟩,⟨hs.kn,?_,λr hr=>?_,hs.td⟩⟩
 .rw[nT hs hn hk];split
  .rfl
  .exact h
 .show(s.wr.set n _).length=N;rw[length_set];exact hs.wr
 .rcases mem_or_eq_of_mem_set (show r∈s.wr.set n _ from hr) with h|rfl
  .exact hs.rw r h
  .rw[length_set];have hw:n<s.wr.length:=(by rw[hs.wr];exact hn);rw[getD_eq_getElem?_getD,getElem?_eq_getElem hw];exact hs.rw _ (getElem_mem hw)
theorem jr{b:Bool}{k:Nat}(hs:ki N s)(hn:n<N)(hk:k<5):mR s (wrI b n k s)/\ki N (wrI b n k s)/\(k=2\/k=3\/k=4->Sf (wrI b n k s)->b=false):=by
 unfold wrI;split
 .obtain⟨h1,h2⟩:=xG hs hn hk;refine⟨h1,h2,λmK hS=>?_⟩;have:=hS.2 n k mK;rw[nT hs hn hk,if_pos ⟨rfl,rfl⟩]at this;cases this
 .rename_i hb;exact⟨mR.refl s,hs,λ_ _=>by simpa using hb⟩
theorem Zh:∀(m k:Nat) {res:List CF} {r:List CF × Sr},r.2.fu=true->(ip c m k res r).2.fu=true
 |0,_,_,_,h=>h
 |m+1,k,res,r,h=>by
  unfold ip;rw[if_neg (λh2=>by rw[h]at h2;cases h2.2)];exact h
theorem Ac{fuel a b:Nat}(hf:Td f)(hs:ki N s)(ha:a<N)(hb:b<N):mR s (dU c fuel a b f s)/\ki N (dU c fuel a b f s)/\(Sf (dU c fuel a b f s)->∀P,SW P->P (bH c b f)->CC (dU c fuel a b f s) b P):=by
 unfold dU;split
 .obtain⟨h1,h2,h3⟩:=oh (c:=c) hf hs hb;exact⟨h1,h2,λ_=>h3⟩
 .simp only;obtain⟨g1,g2⟩:=xG hs ha (k:=2) (by omega);obtain⟨k1,k2,k3⟩:=kQ (c:=c) fuel 0 (res:=[]) (r:=([f],kO a 2 s)) (λg hg=>by rw[mem_singleton.1 hg];exact hf) (λg hg=>by simp at hg);have hL:mR (kO a 2 s) (ip c fuel 0 [] ([f],kO a 2 s)).2:=by
   refine⟨λh=>Zh fuel 0 h,λm k h=>?_,λm P hc h=>?_⟩
   .unfold sW;rw[k3];exact h
   .unfold CC bq;rw[k2];exact h
  have hS:ki N (ip c fuel 0 [] ([f],kO a 2 s)).2:=⟨by rw[k2];exact g2.kn,by rw[k3];exact g2.wr,λr hr=>by rw[k3]at hr;exact g2.rw r hr,λl hl=>by rw[k2]at hl;exact g2.td l hl⟩;obtain⟨q1,q2⟩:=uu (c:=c) (n:=b) (ip c fuel 0 [] ([f],kO a 2 s)).1 k1 hS hb;refine⟨g1.trans (hL.trans q1),q2,λhsf=>?_⟩;have h9:=((hL.trans q1).sf hsf).2 a 2 (zq0 rfl);rw[nT hs ha (by omega),if_pos ⟨rfl,rfl⟩]at h9;cases h9
theorem pH{fuel a b:Nat}(ha:a<N):∀(l:List CF) {s:Sr},(l≠[]->b<N)->bV l->ki N s->mR s (l.foldl (λs g=>dU c fuel a b g s) s)/\ki N (l.foldl (λs g=>dU c fuel a b g s) s) /\
  (Sf (l.foldl (λs g=>dU c fuel a b g s) s)->∀g∈l,∀P,SW P->P (bH c b g)->CC (l.foldl (λs g=>dU c fuel a b g s) s) b P)
 |[],s,_,_,h=>⟨mR.refl s,h,λ_ g hg=>by simp at hg⟩
 |g::l,s,hb,hl,h=>by
  rw[foldl_cons];have hbN:=hb (by simp);obtain⟨h1,h2,h3⟩:=Ac (c:=c) (fuel:=fuel) (hl g (by simp)) h ha hbN;obtain⟨h4,h5,h6⟩:=pH ha l (λ_=>hbN) (λx hx=>hl x (by simp[hx])) h2;refine⟨h1.trans h4,h5,λhS x hx P hc SD=>?_⟩;rcases mem_cons.1 hx with rfl|hx
  .exact h4.kn _ _ hc (h3 (h4.sf hS) P hc SD)
  .exact h6 hS x hx P hc SD
structure ClS(c:Cd)(s:Sr)(n:Nat)(f:CF):Prop where
 nu:(cj (c.nds.getD n aI) f).nu=false
 da:(cj (c.nds.getD n aI) f).da=false
 fu:(cj (c.nds.getD n aI) f).fu=false
 en:(c.nds.getD n aI).op=0->dc f=[]
 nx:∀g∈(cj (c.nds.getD n aI) f).nx,aj g/\∀P,SW P->P (bH c (c.nds.getD n aI).nx g)->CC s (c.nds.getD n aI).nx P
 ot:∀g∈(cj (c.nds.getD n aI) f).ot,aj g/\∀P,SW P->P (bH c (c.nds.getD n aI).ot g)->CC s (c.nds.getD n aI).ot P
theorem ClS.mono{s':Sr}(h:ClS c s n f)(hl:mR s s'):ClS c s' n f:=⟨h.nu,h.da,h.fu,h.en,λg hg=>⟨(h.nx g hg).1,λP hc hf=>hl.kn _ _ hc ((h.nx g hg).2 P hc hf)⟩,λg hg=>⟨(h.ot g hg).1,λP hc hf=>hl.kn _ _ hc ((h.ot g hg).2 P hc hf)⟩⟩
end
theorem fK.congr{bl:List Bool}{s t:List Nat}(h:fK bl s)(he:∀c,c∈s↔c∈t):fK bl t:=⟨h.1,λc hc=>(h.2 c hc).trans (he c)⟩
structure Rng(f:CF):Prop where
 cl:∀c∈kj f,c<24
 ow:Rm f
 ap:RmA f
theorem Ar(w:World):Ob (w.alloc (.cells (dl (replicate 24 false)).toArray 240)) 240 24 w.heap.size (dl (replicate 24 false)) :=
 ownsRow_lit (base:=0) (e:=240) (size:=24) w (dl (replicate 24 false)).toArray 1 (zq5 _) (by simp[maxLen]) rfl
theorem CS:fK (replicate 24 false) []:=⟨by simp,λc hc=>by rw[getD_eq_getElem?_getD,getElem?_replicate,if_pos hc];simp⟩
theorem yZ{l:List Pr}{P:Pr->Bool}{k:Nat}(hk:k<l.length):(l.take (k+1)).filter P=(l.take k).filter P++(if P (l.getD k ay) then [l.getD k ay] else []):=by
 rw[jZ hk,take_add_one,getElem?_eq_getElem hk,filter_append];congr 1;simp only[Option.toList];cases h:P l[k] <;> simp[h]
theorem Ko{l:List Pr}{k:Nat}(hk:k<l.length):(l.take (k+1)).flatMap (λp=>[p.l,p.r])=(l.take k).flatMap (λp=>[p.l,p.r])++[(l.getD k ay).l,(l.getD k ay).r]:=by
 rw[jZ hk,take_add_one,getElem?_eq_getElem hk,flatMap_append];simp
theorem Vl{S T:List Nat}{a b d:Nat}:d∈b::a::(S++T)↔d∈S++(T++[a,b]):=by
 simp only[mem_cons,mem_append,not_mem_nil,or_false];exact⟨λh=>by rcases h with h|h|h|h <;> simp[h],λh=>by rcases h with h|h|h|h <;> simp[h]⟩
section
variable {w:World} {A:Nat} {f:CF} {av ov:Value}
theorem Fw(h:Fm w A f av ov)(hR:Rng f)(ha:f.ap.length<=100000)(ho:f.ow.length<=100000):Calls prog 197 #[.pointer (some ⟨A,0,none⟩)] w λe w'=>e=.returned (.tuple #[])/\∃av',Fm w' A (cJ f) av' ov/\ar (aG A av ov) w (aG A av' ov) w':=by
 obtain⟨i0,lr,gX,gy,gK⟩:=info_parts infoPair;obtain⟨oa,oc,gw,-,-⟩:=am h.is.ow;subst gw;obtain⟨aa,ac,ko,-,-⟩:=am h.is.ap;subst ko;obtain⟨w0,mA⟩:∃w0,w0=w.alloc (.cells (dl (replicate 24 false)).toArray 240):=⟨_,rfl⟩;have tH:Below w.heap.size w w0:=by rw[mA];exact ah w _
 have Uh:Ob w0 240 24 w.heap.size (dl (replicate 24 false)):=by rw[mA];exact Ar w
 have h0:=h.is.below tH;have x0:=h0.cls (i:=0) (by omega);have x1:=h0.cls (i:=1) (by omega);have x2:=h0.cls (i:=2) (by omega);have x3:=h0.cls (i:=3) (by omega);have x4:=h0.cls (i:=4) (by omega);unfold gZ at x0 x1 x2 x3 x4;have dT:=hR.cl;unfold kj at dT;have hcL:kj f=[f.cl.getD 0 0,f.cl.getD 1 0,f.cl.getD 2 0,f.cl.getD 3 0,f.cl.getD 4 0]:=rfl;obtain⟨y0,e0⟩:∃y,y=f.cl.getD 0 0:=⟨_,rfl⟩;obtain⟨y1,e1⟩:∃y,y=f.cl.getD 1 0:=⟨_,rfl⟩;obtain⟨y2,e2⟩:∃y,y=f.cl.getD 2 0:=⟨_,rfl⟩;obtain⟨y3,e3⟩:∃y,y=f.cl.getD 3 0:=⟨_,rfl⟩;obtain⟨y4,e4⟩:∃y,y=f.cl.getD 4 0:=⟨_,rfl⟩;rw[<-e0,<-e1,<-e2,<-e3,<-e4]at dT hcL;rw[<-e0]at x0;rw[<-e1]at x1;rw[<-e2]at x2;rw[<-e3]at x3;rw[<-e4]at x4;have l0:y0<24:=dT y0 (by simp);have l1:y1<24:=dT y1 (by simp);have l2:y2<24:=dT y2 (by simp);have l3:y3<24:=dT y3 (by simp);have l4:y4<24:=dT y4 (by simp);have j0:=AO (.int .i64 (y0:Int)) (.int .i64 (y1:Int)) (.int .i64 (y2:Int)) (.int .i64 (y3:Int)) (.int .i64 (y4:Int));have j1:=AP (.int .i64 (y0:Int)) (.int .i64 (y1:Int)) (.int .i64 (y2:Int)) (.int .i64 (y3:Int)) (.int .i64 (y4:Int));have j2:=AQ (.int .i64 (y0:Int)) (.int .i64 (y1:Int)) (.int .i64 (y2:Int)) (.int .i64 (y3:Int)) (.int .i64 (y4:Int));have j3:=AR (.int .i64 (y0:Int)) (.int .i64 (y1:Int)) (.int .i64 (y2:Int)) (.int .i64 (y3:Int)) (.int .i64 (y4:Int));have j4:=AS (.int .i64 (y0:Int)) (.int .i64 (y1:Int)) (.int .i64 (y2:Int)) (.int .i64 (y3:Int)) (.int .i64 (y4:Int));have H:=ab h;have xH:=ab hcL;have HR:=ab hR;have cF:Hid (Ob w0 240 24 w.heap.size (dl (replicate 24 false))/\fK (replicate 24 false) ([y0,y1,y2,y3,y4].take 0)/\Below w.heap.size w w0):=ab ⟨Uh,CS,tH⟩;clear h e0 e1 e2 e3 e4 dT hcL hR h0 Uh tH;simp only[dl,replicate,map_cons,map_nil]at mA;go_enter func197,ntmps197;go_upto_region 1 with fail;rw[<-mA];clear mA;go_wp2_with fail
 go_loopw [14] (λi wx=>∃(k:Nat) (bl:List Bool),k<=5/\i=.int .i64 k/\Hid (Ob wx 240 24 w.heap.size (dl bl)/\fK bl ([y0,y1,y2,y3,y4].take k)/\Below w.heap.size w wx)) (λi _=>5-(intOf i).toNat)
 case atStart=>exact⟨0,_,zq5 _,rfl,cF⟩
 case round =>
  clear cF x0 x1 x2 x3 x4;obtain⟨k,bl,hk,rfl,hI⟩:=hrel;have aP:∀c,c<24->(∃u,wr.cell? ⟨w.heap.size,c,none⟩=some u)/\wr.frozen? ⟨w.heap.size,c,none⟩=false:=λc hc=>⟨⟨_,(ownsRow.cellAt (uh hI).1 c (by omega)).trans (fP (by rw[(uh hI).2.1.1];exact hc))⟩,ownsRow.frozenAt (uh hI).1 c⟩;have vX:∀c,c<24->∀t,(∀d,d∈c::([y0,y1,y2,y3,y4].take k)↔d∈t)->Ob (wr.setCell ⟨w.heap.size,c,none⟩ (.bool true)) 240 24 w.heap.size (dl (bl.set c true))/\fK (bl.set c true) t/\Below w.heap.size w (wr.setCell ⟨w.heap.size,c,none⟩ (.bool true)):=λc hc t ht =>
   ⟨by have:=(uh hI).1.stored c (.bool true);rwa [lW]at this,((uh hI).2.1.add hc).congr ht,(uh hI).2.2.setCell (p:=⟨w.heap.size,c,none⟩) (zq4 _) _⟩
  have qn:=ab vX;clear vX;have vP:k=0\/k=1\/k=2\/k=3\/k=4\/k=5:=by omega
  rcases vP with rfl|rfl|rfl|rfl|rfl|rfl
  .obtain⟨⟨u,hu⟩,hz⟩:=aP y0 l0;clear aP;go_wp2_with fail
   go_roundw
   case rel=>exact⟨1,_,by omega,by go_num,ab (uh qn y0 l0 _ (λd=>by simp))⟩
   case measure=>simp[intOf]
  .obtain⟨⟨u,hu⟩,hz⟩:=aP y1 l1;clear aP;go_wp2_with fail
   go_roundw
   case rel=>exact⟨2,_,by omega,by go_num,ab (uh qn y1 l1 _ (λd=>by simp;try omega))⟩
   case measure=>simp[intOf]
  .obtain⟨⟨u,hu⟩,hz⟩:=aP y2 l2;clear aP;go_wp2_with fail
   go_roundw
   case rel=>exact⟨3,_,by omega,by go_num,ab (uh qn y2 l2 _ (λd=>by simp;try omega))⟩
   case measure=>simp[intOf]
  .obtain⟨⟨u,hu⟩,hz⟩:=aP y3 l3;clear aP;go_wp2_with fail
   go_roundw
   case rel=>exact⟨4,_,by omega,by go_num,ab (uh qn y3 l3 _ (λd=>by simp;try omega))⟩
   case measure=>simp[intOf]
  .obtain⟨⟨u,hu⟩,hz⟩:=aP y4 l4;clear aP;go_wp2_with fail
   go_roundw
   case rel=>exact⟨5,_,by omega,by go_num,ab (uh qn y4 l4 _ (λd=>by simp;try omega))⟩
   case measure=>simp[intOf]
  .clear aP qn;rw[show((5:Nat):Int)=(5:Int) from rfl];have h1:=(uh H).is.below (uh hI).2.2;have c6:=h1.c6;obtain⟨D,hD⟩:∃D,D=w.heap.size:=⟨_,rfl⟩;have eo:Hid (Ob wr 240 24 D (dl bl)/\fK bl ([y0,y1,y2,y3,y4]++(f.ow.take 0).flatMap (λp=>[p.l,p.r]))/\Below w.heap.size w wr):=ab ⟨by rw[hD];exact(uh hI).1,(uh hI).2.1,(uh hI).2.2⟩;have HD:=ab hD;clear hI h1 j0 j1 j2 j3 j4 l0 l1 l2 l3 l4;rw[<-hD];clear hD;go_wp2_with fail
   go_loopw [25] (λi wx=>∃(k:Nat) (bl:List Bool),k<=f.ow.length/\i=.int .i64 k/\Hid (Ob wx 240 24 D (dl bl)/\fK bl ([y0,y1,y2,y3,y4]++(f.ow.take k).flatMap (λp=>[p.l,p.r]))/\Below w.heap.size w wx)) (λi _=>f.ow.length-(intOf i).toNat)
   case atStart=>exact⟨0,bl,zq5 _,rfl,eo⟩
   case round =>
    clear eo c6;obtain⟨k,bl,hk,rfl,hI⟩:=hrel;have h1:=(uh H).is.below (uh hI).2.2;by_cases au:k<f.ow.length
    .have hd:decide ((k:Int)<(f.ow.length:Int))=true:=(by simp;omega);obtain⟨g,cap,dE,-,-⟩:=aE h1.ow au;simp only[Value.slice.injEq,true_and]at dE;obtain⟨rfl,rfl⟩:=dE;obtain⟨x0,x1,x2⟩:=aB h1.ow au;obtain⟨kZ,xT⟩:=(uh HR).ow.at k;have qq:=Ko au;obtain⟨p,hp⟩:∃p,p=f.ow.getD k ay:=⟨_,rfl⟩;rw[<-hp]at x0 x1 x2 kZ xT qq;obtain⟨-,n1,n2⟩:=Gq wr (Value.int .i64 p.k) (.int .i64 p.l) (.int .i64 p.r) 182;have hDl:D<wr.heap.size:=(ownsRow.lt (uh hI).1 D rfl).2;have o0:=(uh hI).1.alloc (.cells #[Value.int .i64 p.k,.int .i64 p.l,.int .i64 p.r] 182);obtain⟨⟨u1,hu1⟩,amt⟩:=o0.some (j:=p.l) kZ;have o1:=(uh hI).1.stored p.l (.bool true);rw[lW]at o1;obtain⟨⟨u3,hu3⟩,asu⟩:=o1.some (j:=p.r) xT;have o2:=o1.stored p.r (.bool true);rw[lW]at o2;have n2':((wr.alloc (.cells #[Value.int .i64 p.k,.int .i64 p.l,.int .i64 p.r] 182)).setCell ⟨D,p.l,none⟩ (.bool true)).cell? ⟨wr.heap.size,2,none⟩=some (.int .i64 (p.r:Int)):=by
      rw[cell?_setCell_other _ _ _ _ (by intro e;simp at e;try omega)];exact n2
     have Ay:=(((uh hI).2.2.setCell (p:=⟨D,p.l,none⟩) (Nat.le_of_eq (uh HD).symm) (.bool true)).setCell (p:=⟨D,p.r,none⟩) (Nat.le_of_eq (uh HD).symm) (.bool true));have HO2:=ab (o2.alloc (.cells #[Value.int .i64 p.k,.int .i64 p.l,.int .i64 p.r] 182));have Sj:Hid (fK ((bl.set p.l true).set p.r true) ([y0,y1,y2,y3,y4]++(f.ow.take (k+1)).flatMap (λp=>[p.l,p.r]))):=ab ((((uh hI).2.1.add kZ).add xT).congr (λd=>by rw[qq];exact Vl));have MF:=ab (Ay.alloc Ay.size (.cells #[Value.int .i64 p.k,.int .i64 p.l,.int .i64 p.r] 182));have i1:(0:Int)<=(k:Int):=(by omega);have i2:(k:Int)<(f.ow.length:Int):=(by omega);clear o0 o1 o2 hp qq h1 hI Ay;go_wp2_with fail
     go_roundw
     case rel=>exact⟨k+1,_,by omega,by go_num,ab ⟨uh HO2,uh Sj,uh MF⟩⟩
     case measure=>simp[intOf];omega
    .have hd:decide ((k:Int)<(f.ow.length:Int))=false:=(by simp;omega);have kE:k=f.ow.length:=(by omega);have c5:=(h1.alloc (.cells #[] 182)).c5;have Sj:Hid (fK bl (bL f)):=ab (by
      have:=(uh hI).2.1;rw[kE,take_length]at this;unfold bL;rw[uh xH];exact this)
     have HOD:=ab (uh hI).1;have SZ:=ab (uh hI).2.2;have uX:Hid ((wr.alloc (.cells #[] 182)).ownsRow wr.heap.size 182 3 (.slice (some ⟨wr.heap.size,0,none⟩) 0 0) 0 []/\Below wr.heap.size wr (wr.alloc (.cells #[] 182))):=ab ⟨ownsRow_lit (base:=wr.heap.size) (e:=182) (size:=3) wr #[] 0 (zq4 _) (by simp[maxLen]) rfl,ah wr _⟩;have H1:=ab h1;clear h1 hI kE;obtain⟨wz,hwz⟩:∃wz,wz=wr:=⟨_,rfl⟩;rw[<-hwz]at HOD SZ uX H1 c5 ⊢;clear hwz;go_wp2_with fail
     go_loopw [7,42] (λrv j wx=>∃(k:Nat),k<=f.ap.length/\j=.int .i64 k/\Hid (wx.ownsRow wz.heap.size 182 3 rv ((f.ap.take k).filter (yd f)).length (af ((f.ap.take k).filter (yd f)))/\Below wz.heap.size wz wx)) (λ_ j _=>f.ap.length-(intOf j).toNat)
     case atStart=>exact⟨0,zq5 _,rfl,uX⟩
     case round =>
      clear uX c5;obtain⟨k,hk,rfl,hI⟩:=hrel;have hF:=(uh H1).below (uh hI).2;have hdo:=(uh HOD).of_eq (w':=wr) ((uh hI).2.block D (ownsRow.lt (uh HOD) D rfl).2);obtain⟨ra,rc,Mu,-,-⟩:=am (uh hI).1;subst Mu;by_cases au:k<f.ap.length
      .have hd:decide ((k:Int)<(f.ap.length:Int))=true:=(by simp;omega);obtain⟨g2,cap2,dE,-,-⟩:=aE hF.ap au;simp only[Value.slice.injEq,true_and]at dE;obtain⟨rfl,rfl⟩:=dE;obtain⟨x0,x1,x2⟩:=aB hF.ap au;obtain⟨kZ,xT⟩:=(uh HR).ap (f.ap.getD k ay) (by rw[jZ au];exact getElem_mem au);have aP:=yZ (P:=yd f) au;obtain⟨p,hp⟩:∃p,p=f.ap.getD k ay:=⟨_,rfl⟩;rw[<-hp]at x0 x1 x2 kZ xT aP;obtain⟨-,n1,n2⟩:=Gq wr (Value.int .i64 p.k) (.int .i64 p.l) (.int .i64 p.r) 182;have hDl:D<wr.heap.size:=(ownsRow.lt hdo D rfl).2;obtain⟨⟨-,-⟩,amt⟩:=hdo.some (j:=p.l) kZ;have d1:=(ownsRow.cellAt hdo p.l (by omega)).trans (fP (by rw[(uh Sj).1];exact kZ));have d2:=(ownsRow.cellAt hdo p.r (by omega)).trans (fP (by rw[(uh Sj).1];exact xT));obtain⟨b1,bz⟩:∃b,b=bl.getD p.l false:=⟨_,rfl⟩;obtain⟨b2,aW⟩:∃b,b=bl.getD p.r false:=⟨_,rfl⟩;rw[<-bz]at d1;rw[<-aW]at d2;have e1:decide (p.l∈bL f)=b1:=(by rw[bz];have:=(uh Sj).2 p.l kZ;cases h:bl.getD p.l false <;> simp_all);have e2:decide (p.r∈bL f)=b2:=(by rw[aW];have:=(uh Sj).2 p.r xT;cases h:bl.getD p.r false <;> simp_all);have dh:=ab aP;have HP:Hid (yd f p=(b1&&b2&&!mG f p.l p.r)):=ab (by unfold yd;rw[e1,e2]);have f8:=ab ((uh hI).2.alloc (uh hI).2.size (.cells #[.int .i64 (p.k:Int),.int .i64 (p.l:Int),.int .i64 (p.r:Int)] 182));have HRB:=ab ((uh hI).1.alloc (.cells #[.int .i64 (p.k:Int),.int .i64 (p.l:Int),.int .i64 (p.r:Int)] 182));have EW:=ab (hF.alloc (.cells #[.int .i64 (p.k:Int),.int .i64 (p.l:Int),.int .i64 (p.r:Int)] 182));have i1:(0:Int)<=(k:Int):=(by omega);have i2:(k:Int)<(f.ap.length:Int):=(by omega);have dN:((f.ap.take k).filter (yd f)).length<=k:=zq3 (length_filter_le _ _) (by simp;omega);obtain⟨L,hL⟩:∃L,L=(f.ap.take k).filter (yd f):=⟨_,rfl⟩;rw[<-hL]at dh HRB hI dN ⊢;clear hp aP hF hdo bz aW e1 e2 hL;have no:yd f p=false->(f.ap.take (k+1)).filter (yd f)=L:=λh=>by rw[uh dh,h];simp
       have yes:yd f p=true->(f.ap.take (k+1)).filter (yd f)=L++[p]:=λh=>by rw[uh dh,h];simp
       have NO:=ab no;have YES:=ab yes;clear no yes;cases b1
       .go_wp2_with fail
        go_roundw
        case rel=>exact⟨k+1,by omega,by go_num,ab (by rw[uh NO (by rw[uh HP];rfl)];exact⟨uh HRB,uh f8⟩)⟩
        case measure=>simp[intOf];omega
       .cases b2
        .go_wp2_with fail
         go_roundw
         case rel=>exact⟨k+1,by omega,by go_num,ab (by rw[uh NO (by rw[uh HP];rfl)];exact⟨uh HRB,uh f8⟩)⟩
         case measure=>simp[intOf];omega
        .go_wp2_with fail
         refine(yS p.l p.r (uh EW)).mono ?_;rintro e w1 ⟨rfl,rfl⟩;cases dT:mG f p.l p.r
         .have HY:=ab (uh YES (by rw[uh HP,dT];rfl));clear YES NO HP dT;go_wp2_with (at_builtin;refine aS _ rfl (.tmp 65) (.tmp 67) 177 rfl wz.heap.size 182 i0 _ 3 24 underlying177 lr gX gy gK rfl (by decide) _ L.length (af L) rfl ((uh HRB).alloc _) ⟨_,0,none⟩ 1 [.int .i64 (p.k:Int),.int .i64 (p.l:Int),.int .i64 (p.r:Int)] rfl rfl (aN _ _ (by simp) [.int .i64 (p.k:Int),.int .i64 (p.l:Int),.int .i64 (p.r:Int)] _) (rj p) (by omega) (by omega) (by have:=(uh f8).size;simp at this ⊢;omega) ?_)
          intro g4 cap4 w4 iJ eu jK;have HN:Hid (w4.ownsRow wz.heap.size 182 3 (.slice (some ⟨g4,0,none⟩) (L.length+1) cap4) ((f.ap.take (k+1)).filter (yd f)).length (af ((f.ap.take (k+1)).filter (yd f)))/\Below wz.heap.size wz w4):=ab (by
           rw[uh HY,length_append,length_singleton,eZ];refine⟨iJ,?_⟩;have hb:=(uh f8).alloc (uh f8).size (.cells #[.int .i64 (p.k:Int),.int .i64 (p.l:Int),.int .i64 (p.r:Int)] 182);exact hb.grown eu hb.size (λk hk=>((uh HRB).lt k hk).1))
          clear iJ eu jK;go_wp2_with fail
          go_roundw
          case rel=>exact⟨k+1,by omega,by go_num,HN⟩
          case measure=>simp[intOf];omega
         .go_wp2_with fail
          go_roundw
          case rel=>exact⟨k+1,by omega,by go_num,ab (by rw[uh NO (by rw[uh HP,dT];rfl)];exact⟨uh HRB,uh f8⟩)⟩
          case measure=>simp[intOf];omega
      .have hd:decide ((k:Int)<(f.ap.length:Int))=false:=(by simp;omega);have kE:k=f.ap.length:=(by omega);have hbw:=(uh SZ).trans ((uh hI).2.mono (uh SZ).size);have hs:ar (Value.slice aa f.ap.length ac).ownBlock.toList w (Value.slice ra ((f.ap.take k).filter (yd f)).length rc).ownBlock.toList wr:=(ar.ofBw (F:=(Value.slice aa f.ap.length ac).ownBlock.toList) hbw).foots (λj hj=>zq1 (zq3 (uh SZ).size ((uh hI).1.lt j (by simpa using hj)).1));have hN:=(uh H).newAv (ap':=(f.ap.take k).filter (yd f)) hs (v':=.slice ra ((f.ap.take k).filter (yd f)).length rc) (λj hj=>by simpa using hj) (dY (uh hI).1 (zq5 _));have HN:=ab hN;have HE:Hid (cJ f={ f with ap:=(f.ap.take k).filter (yd f) }):=ab (by unfold cJ;rw[kE,take_length]);have c5:=hF.c5;have f5:=ownsRow.frozenAt hF.ob 5;clear hs hN kE hF hbw hdo;go_wp2_with fail
       go_end0
       exact⟨rfl,_,by rw[uh HE];exact(uh HN).1,(uh HN).2⟩
end
def EM(ms:List Nat):List Value:=(ms++replicate (24-ms.length) 0).map (λn=>Value.int .i64 (n:Nat))++((range 24).map (λc=>Value.int .i64 (CY ms c:Nat))++[Value.int .i64 (ms.length:Nat)])
theorem Gs{ms:List Nat}(h:ms.length<=24){k:Nat}(hk:k<24):(EM ms)[k]?=some (.int .i64 ((ms.getD k 0:Nat):Int)):=by
 unfold EM;rw[getElem?_append_left (by simp;omega),getElem?_map,getD_eq_getElem?_getD];by_cases hl:k<ms.length
 .rw[getElem?_append_left hl,getElem?_eq_getElem hl];rfl
 .rw[getElem?_append_right (by omega),getElem?_replicate,if_pos (by omega),getElem?_eq_none (by omega)];rfl
theorem wH{ms:List Nat}(h:ms.length<=24){c:Nat}(hc:c<24):(EM ms)[24+c]?=some (.int .i64 ((CY ms c:Nat):Int)):=by
 unfold EM;have e:((ms++replicate (24-ms.length) 0).map (λn=>Value.int .i64 ((n:Nat):Int))).length=24:=by simp;omega
 rw[getElem?_append_right (by omega),e,Nat.add_sub_cancel_left,getElem?_append_left (by simpa using hc),getElem?_map,getElem?_range hc];rfl
theorem wG{ms:List Nat}(h:ms.length<=24):(EM ms)[48]?=some (.int .i64 ((ms.length:Nat):Int)):=by
 unfold EM;have e:((ms++replicate (24-ms.length) 0).map (λn=>Value.int .i64 ((n:Nat):Int))).length=24:=by simp;omega
 rw[getElem?_append_right (by omega),e,getElem?_append_right (by simp)];simp
theorem Gr{ms:List Nat}(h:ms.length<=24):(EM ms).length=49:=by unfold EM;simp;omega
theorem Ua{ms:List Nat}{c d:Nat}(hc:c ∉ ms):CY (ms++[c]) d=if d=c then ms.length+1 else CY ms d:=by
 unfold CY;by_cases hd:d=c
 .subst hd;rw[if_pos (by simp),if_pos rfl,idxOf_append,if_neg hc];simp
 .rw[if_neg hd];by_cases hm:d∈ms
  .rw[if_pos (by simp[hm]),if_pos hm,idxOf_append,if_pos hm]
  .rw[if_neg (by simp[hm,hd]),if_neg hm]
theorem aba{ms:List Nat}{c:Nat}(hl:ms.length<24)(hc:c<24)(hn:c ∉ ms):(((EM ms).set ms.length (.int .i64 (c:Int))).set 48 (.int .i64 ((ms.length+1:Nat):Int))).set (24+c) (.int .i64 ((ms.length+1:Nat):Int))=EM (ms++[c]):=by
 refine ext_getElem? (λj=>?_);have l1:=Gr (ms:=ms) (by omega);have l2:=Gr (ms:=ms++[c]) (by simp;omega);simp only[getElem?_set,length_set,l1];by_cases hj:j<49
 .by_cases h1:j<24
  .rw[Gs (ms:=ms++[c]) (by simp;omega) h1,if_neg (by omega),if_neg (by omega)];by_cases h2:ms.length=j
   .subst h2;rw[if_pos rfl,if_pos (by omega),getD_eq_getElem?_getD,getElem?_append_right (zq4 _)];simp
   .rw[if_neg h2,Gs (ms:=ms) (by omega) h1];have e:ms.getD j 0=(ms++[c]).getD j 0:=by
     rw[getD_eq_getElem?_getD,getD_eq_getElem?_getD];by_cases h3:j<ms.length
     .rw[getElem?_append_left h3]
     .rw[getElem?_eq_none (by omega),getElem?_eq_none (by simp;omega)]
    rw[e]
  .by_cases h2:j=48
   .subst h2;rw[wG (ms:=ms++[c]) (by simp;omega),if_neg (by omega),if_pos rfl,if_pos (by omega)];simp
   .obtain⟨d,hd⟩:∃d,j=24+d:=⟨j-24,by omega⟩;subst hd;rw[wH (ms:=ms++[c]) (by simp;omega) (by omega),Ua hn];by_cases h3:d=c
    .subst h3;rw[if_pos rfl,if_pos (by omega),if_pos rfl]
    .rw[if_neg (by omega),if_neg (by omega),if_neg (by omega),wH (ms:=ms) (by omega) (by omega),if_neg h3]
 .rw[if_neg (by omega),if_neg (by omega),if_neg (by omega),getElem?_eq_none (by omega),getElem?_eq_none (by omega)]
structure Nu(w:World)(N:Nat)(ms:List Nat):Prop where
 ob:Ob w 290 49 N (EM ms)
 ok:ep ms
section
variable {w w':World} {N:Nat} {ms:List Nat}
theorem Nu.of_eq(h:Nu w N ms)(he:w'.heap[N]?=w.heap[N]?):Nu w' N ms:=⟨h.ob.of_eq he,h.ok⟩
theorem Nu.ltN(h:Nu w N ms):N<w.heap.size:=(ownsRow.lt h.ob N rfl).2
theorem Nu.below(h:Nu w N ms)(hb:Below w.heap.size w w'):Nu w' N ms:=h.of_eq (hb.block N h.ltN)
theorem Nu.old(h:Nu w N ms){k:Nat}(hk:k<24):w.cell? ⟨N,k,none⟩=some (.int .i64 ((ms.getD k 0:Nat):Int)):=(ownsRow.cellAt h.ob k (by omega)).trans (Gs h.ok.len hk)
theorem Nu.fresh(h:Nu w N ms){c:Nat}(hc:c<24):w.cell? ⟨N,24+c,none⟩=some (.int .i64 ((CY ms c:Nat):Int)):=(ownsRow.cellAt h.ob (24+c) (by omega)).trans (wH h.ok.len hc)
theorem Nu.count(h:Nu w N ms):w.cell? ⟨N,48,none⟩=some (.int .i64 ((ms.length:Nat):Int)):=(ownsRow.cellAt h.ob 48 (by omega)).trans (wG h.ok.len)
theorem Nu.frz(h:Nu w N ms)(j:Nat):w.frozen? ⟨N,j,none⟩=false:=ownsRow.frozenAt h.ob j
theorem wA(h:Nu w N ms){c:Nat}(hc:c<24):Calls prog 223 #[.pointer (some ⟨N,0,none⟩),.int .i64 c] w λe w'=>e=.returned (.tuple #[])/\Nu w' N (iS ms c)/\ar [N] w [N] w':=by
 have lQ:=h.fresh hc;have IB:=h.count;have hz:=h.frz;by_cases hm:c∈ms
 .have aat:0<CY ms c:=by unfold CY;rw[if_pos hm];omega
  obtain⟨x,hx⟩:∃x,x=CY ms c:=⟨_,rfl⟩;rw[<-hx]at lQ aat;have hd:decide ((0:Int)<(x:Int))=true:=by simp;omega
  have HE:Hid (iS ms c=ms):=ab (by unfold iS;rw[if_pos hm]);have H:=ab h;clear h hx hm hz IB;go_enter func223,ntmps223;go_wp2_with fail
  refine bodyPost_ret (v:=.tuple #[]) (by simp[results,Tryz.f223]) rfl ?_;exact⟨rfl,by rw[uh HE];exact uh H,ar.refl _ _⟩
 .have hx:CY ms c=0:=by unfold CY;rw[if_neg hm]
  rw[hx]at lQ;have hl:ms.length<24:=by
   have h1:=(h.ok.me hc).len;unfold iS at h1;rw[if_neg hm,length_append,length_singleton]at h1;omega
  have o1:=h.ob.stored ms.length (.int .i64 (c:Int));have o2:=o1.stored 48 (.int .i64 ((ms.length+1:Nat):Int));have o3:=o2.stored (24+c) (.int .i64 ((ms.length+1:Nat):Int));rw[aba hl hc hm]at o3;have c2:=ownsRow.cellAt o1 48 (by omega);rw[getElem?_set,if_neg (by omega),wG (by omega)]at c2;have f2:=ownsRow.frozenAt o1 48;have c3:=ownsRow.cellAt o2 48 (by omega);rw[getElem?_set,if_pos rfl,if_pos (by rw[length_set,Gr (by omega)];omega)]at c3;obtain⟨⟨u4,c4⟩,f4⟩:=o2.some (j:=24+c) (by omega);obtain⟨⟨u5,c5⟩,f5⟩:=h.ob.some (j:=ms.length) (by omega);have dh:Hid (ar [N] w [N] (((w.setCell ⟨N,ms.length,none⟩ (.int .i64 (c:Int))).setCell ⟨N,48,none⟩ (.int .i64 ((ms.length+1:Nat):Int))).setCell ⟨N,24+c,none⟩ (.int .i64 ((ms.length+1:Nat):Int)))):=ab ((((ar.refl [N] w).setCell (p:=⟨N,ms.length,none⟩) (zq0 (by simp)) _).setCell (p:=⟨N,48,none⟩) (zq0 (by simp)) _).setCell (p:=⟨N,24+c,none⟩) (zq0 (by simp)) _);have HN:Hid (Nu (((w.setCell ⟨N,ms.length,none⟩ (.int .i64 (c:Int))).setCell ⟨N,48,none⟩ (.int .i64 ((ms.length+1:Nat):Int))).setCell ⟨N,24+c,none⟩ (.int .i64 ((ms.length+1:Nat):Int))) N (iS ms c)):=ab (by
   have e:iS ms c=ms++[c]:=(by unfold iS;rw[if_neg hm]);have h1:=h.ok.me hc;rw[e]at h1 ⊢;exact⟨o3,h1⟩)
  obtain⟨n,hn⟩:∃n,n=ms.length:=⟨_,rfl⟩;rw[<-hn]at IB hl c2 f2 c3 c4 f4 c5 f5 dh HN;rw[show((n+1:Nat):Int)=(n:Int)+1 by omega]at c3 c4 f4 dh HN;have hd:decide ((0:Int)<0)=false:=by decide
  clear o1 o2 o3 h hx hm hn hz;go_enter func223,ntmps223;go_wp2_with fail
  go_region
  go_wp2_with fail
  go_region
  go_wp2_with fail
  go_end0
  exact⟨rfl,(uh HN).of_eq rfl,(uh dh).drew.drew⟩
end
section
variable {w:World} {A N:Nat} {f:CF} {av ov:Value} {ms:List Nat}
theorem xj(hF:eP w A f av ov)(hN:Nu w N ms)(hd:∀k∈aG A av ov,k≠N)(hO:∀p∈f.ow,p.l<24/\p.r<24){k0:Nat}(hk0:k0<=24):Calls prog 224 #[.pointer (some ⟨A,0,none⟩),.pointer (some ⟨N,0,none⟩),.int .i64 k0] w λe w'=>e=.returned (.tuple #[])/\Nu w' N (pi f 25 k0 ms)/\ar [N] w [N] w':=by
 have HF:=ab hF;have HD:=ab hd;have HO:=ab hO;obtain⟨R,hR⟩:∃R,R=pi f 25 k0 ms:=⟨_,rfl⟩;have cF:Hid (Nu w N ms/\pi f 25 k0 ms=R/\ar [N] w [N] w):=ab ⟨hN,hR.symm,ar.refl _ _⟩;rw[<-hR];clear hF hN hd hO hR;go_enter func224,ntmps224;go_wp2_with fail
 go_loopw [6] (λi wx=>∃(k n:Nat) (ml:List Nat),k<=24/\24<n+k/\i=.int .i64 k/\Hid (Nu wx N ml/\pi f n k ml=R/\ar [N] w [N] wx)) (λi _=>25-(intOf i).toNat)
 case atStart=>exact⟨k0,25,ms,hk0,by omega,rfl,cF⟩
 case round =>
  clear cF;obtain⟨k,n,ml,hk,hn,rfl,hI⟩:=hrel;have IB:=(uh hI).1.count;have fI:=(uh hI).1.ok.len;by_cases au:k<ml.length
  .have hd:decide ((k:Int)<(ml.length:Int))=true:=(by simp;omega);have iH:=(uh hI).1.old (k:=k) (by omega);have af5:k<24:=(by omega);obtain⟨n',rfl⟩:∃n',n=n'+1:=⟨n-1,by omega⟩;have aP:pi f n' (k+1) (zN f k ml)=R:=by
    have:=(uh hI).2.1;unfold pi at this;rwa [if_pos au]at this
   have Un:=(uh HF).of_eq (w':=wr) (λj hj=>(uh hI).2.2.block j ((uh HF).lt j hj) (by simpa using uh HD j hj));have HB:=ab (cO (ml.getD k 0) Un);have dh:=ab aP;have Tj:Hid (zN f k ml=match cD f.ow (ml.getD k 0) with|some i=>iS ml (f.ow.getD i ay).r|none=>ml):=ab rfl;obtain⟨c,hc⟩:∃c,c=ml.getD k 0:=⟨_,rfl⟩;rw[<-hc]at iH HB Tj;have HFr:=ab Un;have HN:=ab (uh hI).1;have HP:=ab (uh hI).2.2;obtain⟨L,hL⟩:∃L,L=ml.length:=⟨_,rfl⟩;rw[<-hL]at IB hd au;clear aP Un hc hI hL fI;go_wp2_with fail
   refine(uh HB).mono ?_;rintro e w1 ⟨rfl,rfl⟩;have hg:=sD (cD f.ow c);cases hb:cD f.ow c with
   |none =>
    rw[hb]at hg Tj;have dg:Hid (zN f k ml=ml):=ab (uh Tj);clear Tj;go_wp2_with fail
    go_roundw
    case rel=>exact⟨k+1,n',ml,by omega,by omega,by go_num,ab ⟨uh HN,by have:=uh dh;rw[uh dg]at this;exact this,uh HP⟩⟩
    case measure=>simp[intOf];omega
   |some i =>
    rw[hb]at hg Tj;have dg:Hid (zN f k ml=iS ml (f.ow.getD i ay).r):=ab (uh Tj);clear Tj;obtain⟨hi,-⟩:=eT hb;have c6:=(uh HFr).c6;obtain⟨g,cap,dE,-,-⟩:=aE (uh HFr).ow hi;subst dE;obtain⟨x0,x1,x2⟩:=aB (uh HFr).ow hi;have xT:=(uh HO (f.ow.getD i ay) (aY hi)).2;obtain⟨p,hp⟩:∃p,p=f.ow.getD i ay:=⟨_,rfl⟩;rw[<-hp]at x0 x1 x2 xT dg;have HM:=ab (wA (uh HN) xT);rw[show fU (some i)=(i:Int) from rfl]at hg ⊢;have i1:(0:Int)<=(i:Int):=(by omega);have i2:(i:Int)<(f.ow.length:Int):=(by omega);clear hp hb;go_wp2_with fail
    refine(uh HM).mono ?_;rintro e w2 ⟨rfl,C3,gS⟩;have Em:=ab C3;have HP2:=ab ((uh HP).trans gS);clear C3 gS;go_wp2_with fail
    go_roundw
    case rel=>exact⟨k+1,n',_,by omega,by omega,by go_num,ab ⟨uh Em,by have:=uh dh;rw[uh dg]at this;exact this,uh HP2⟩⟩
    case measure=>simp[intOf];omega
  .have hd:decide ((k:Int)<(ml.length:Int))=false:=(by simp;omega);have HE:Hid (ml=R):=ab (by
    have:=(uh hI).2.1;cases n with
    |zero=>exact this
    |succ n=>unfold pi at this;rwa [if_neg au]at this)
   go_wp2_with fail
   go_end0
   exact⟨rfl,by rw[<-uh HE];exact(uh hI).1,(uh hI).2.2⟩
end
section
variable {w:World} {N:Nat} {v:Value} {l:List Pr} {ms:List Nat}
theorem yN(h:w.ownsRow 0 182 3 v l.length (af l))(hN:Nu w N ms)(hv:v.ownBlock≠some N)(hm:∀p∈l,p.l∈ms/\p.r∈ms)(hl:l.length<=100000):
  Calls prog 225 #[.pointer (some ⟨N,0,none⟩),v] w λe w'=>e=.returned (.tuple #[])/\w'.ownsRow 0 182 3 v l.length (af (l.map (jk ms)))/\ar v.ownBlock.toList w v.ownBlock.toList w':=by
 obtain⟨va,vc,hv',PO,UO⟩:=am h;subst hv';have uX:Hid (w.ownsRow 0 182 3 (.slice va l.length vc) l.length (af (bI (jk ms) l 0))/\ar (Value.slice va l.length vc).ownBlock.toList w (Value.slice va l.length vc).ownBlock.toList w):=ab ⟨by simpa[bI] using h,ar.refl _ _⟩;have HN:=ab hN;have HV:=ab hv;have HM:=ab hm;clear h hN hv hm;go_enter func225,ntmps225;go_wp2_with fail
 go_loopw [4] (λi wx=>∃(k:Nat),k<=l.length/\i=.int .i64 k/\Hid (wx.ownsRow 0 182 3 (.slice va l.length vc) l.length (af (bI (jk ms) l k))/\ar (Value.slice va l.length vc).ownBlock.toList w (Value.slice va l.length vc).ownBlock.toList wx)) (λi _=>l.length-(intOf i).toNat)
 case atStart=>exact⟨0,zq5 _,rfl,uX⟩
 case round =>
  clear uX;obtain⟨k,hk,rfl,hI⟩:=hrel;by_cases au:k<l.length
  .have hd:decide ((k:Int)<(l.length:Int))=true:=(by simp;omega);obtain⟨g,cap,dE,-,-,-⟩:=b8 (uh hI).1 (by omega);simp only[Value.slice.injEq,true_and]at dE;obtain⟨rfl,rfl⟩:=dE;have hgN:g≠N:=λe=>uh HV (by rw[e];rfl);have Up:Nu wr N ms:=(uh HN).of_eq ((uh hI).2.block N (uh HN).ltN (by simpa[Value.ownBlock] using λe=>hgN e.symm));have hK:=lx (g:=jk ms) au;have hr:=(uh hI).1;have dN:=jS (jk ms) l k;have uq:wr.ownsRow 0 182 3 (.slice (some ⟨g,0,none⟩) (bI (jk ms) l k).length vc) (bI (jk ms) l k).length (af (bI (jk ms) l k)):=(by rw[dN];exact hr);obtain⟨-,x1,x2⟩:=aB uq (i:=k) (by omega);obtain⟨kZ,xT⟩:=uh HM (l.getD k ay) (aY au);have aP:=lz (g:=jk ms) au;rw[hK]at x1 x2;obtain⟨p,hp⟩:∃p,p=l.getD k ay:=⟨_,rfl⟩;rw[<-hp]at x1 x2 kZ xT aP hK;have f1:=hr.frozenAt (k*3+1);have f2:=hr.frozenAt (k*3+2);have q1:=Up.fresh (Up.ok.2 p.l kZ);have q2:=Up.fresh (Up.ok.2 p.r xT);have e1:CY ms p.l=ms.idxOf p.l+1:=(by unfold CY;rw[if_pos kZ]);have e2:CY ms p.r=ms.idxOf p.r+1:=(by unfold CY;rw[if_pos xT]);rw[e1]at q1;rw[e2]at q2;have b1:=m9 Up.ok kZ;have b2:=m9 Up.ok xT;have b3:=Up.ok.2 p.l kZ;have b4:=Up.ok.2 p.r xT;obtain⟨x,hx⟩:∃x,x=ms.idxOf p.l:=⟨_,rfl⟩;obtain⟨y,hy⟩:∃y,y=ms.idxOf p.r:=⟨_,rfl⟩;rw[<-hx]at q1 b1;rw[<-hy]at q2 b2;rw[show((x+1:Nat):Int)=(x:Int)+1 by omega]at q1;rw[show((y+1:Nat):Int)=(y:Int)+1 by omega]at q2;have i1:(0:Int)<=(k:Int):=(by omega);have i2:(k:Int)<(l.length:Int):=(by omega);have s1:(wr.setCell ⟨g,k*3+1,none⟩ (.int .i64 (x:Int))).ownsRow 0 182 3 (.slice (some ⟨g,0,none⟩) l.length vc) l.length (af ((bI (jk ms) l k).set k ⟨p.k,x,p.r⟩)):=by
    have:=(hr.stored (k*3+1) (.int .i64 (x:Int))).1;rw[jl (by omega),hK]at this;exact this
   have s2:((wr.setCell ⟨g,k*3+1,none⟩ (.int .i64 (x:Int))).setCell ⟨g,k*3+2,none⟩ (.int .i64 (y:Int))).ownsRow 0 182 3 (.slice (some ⟨g,0,none⟩) l.length vc) l.length (af (bI (jk ms) l (k+1))):=by
    have:=(s1.stored (k*3+2) (.int .i64 (y:Int))).1;rw[fx (by simp;omega)]at this;rw[aP];have e:jk ms p=⟨p.k,x,y⟩:=(by unfold jk;rw[<-hx,<-hy]);rw[e];simpa[dN,au] using this
   have y2:(wr.setCell ⟨g,k*3+1,none⟩ (.int .i64 (x:Int))).cell? ⟨g,k*3+2,none⟩=some (.int .i64 (p.r:Int)):=by
    rw[cell?_setCell_other _ _ _ _ (by simp)];exact x2
   have z2:=s1.frozenAt (k*3+2);have q2':(wr.setCell ⟨g,k*3+1,none⟩ (.int .i64 (x:Int))).cell? ⟨N,24+p.r,none⟩=some (.int .i64 ((y:Int)+1)):=by
    rw[cell?_setCell_other _ _ _ _ (by simp only[ne_eq,Addr.mk.injEq,not_and];intro e;exact absurd e hgN)];exact q2
   have HS:=ab s2;have dh:Hid (ar (Value.slice (some ⟨g,0,none⟩) l.length vc).ownBlock.toList w (Value.slice (some ⟨g,0,none⟩) l.length vc).ownBlock.toList ((wr.setCell ⟨g,k*3+1,none⟩ (.int .i64 (x:Int))).setCell ⟨g,k*3+2,none⟩ (.int .i64 (y:Int)))):=ab (((uh hI).2.setCell (p:=⟨g,k*3+1,none⟩) (zq0 (by simp[Value.ownBlock])) _).setCell (p:=⟨g,k*3+2,none⟩) (zq0 (by simp[Value.ownBlock])) _);clear hr uq hK dN hp s1 s2 hI aP Up kZ xT e1 e2 hx hy hgN;go_wp2_with fail
   go_region
   go_wp2_with fail
   go_region
   go_wp2_with fail
   go_roundw
   case rel=>exact⟨k+1,by omega,by go_num,ab ⟨(uh HS).drew.drew,(uh dh).drew.drew⟩⟩
   case measure=>simp[intOf];omega
  .have hd:decide ((k:Int)<(l.length:Int))=false:=(by simp;omega);have HE:Hid (bI (jk ms) l k=l.map (jk ms)):=ab (wt (by omega));go_wp2_with fail
   go_end0
   exact⟨rfl,by rw[<-uh HE];exact(uh hI).1,(uh hI).2⟩
end
def Ki(g:Nat->Nat)(c:List Nat)(k:Nat):List Nat:=(c.take k).map g++c.drop k
theorem Ns{g:Nat->Nat}{c:List Nat}{k:Nat}(hk:k<c.length):Ki g c (k+1)=(Ki g c k).set k (g (c.getD k 0))/\(Ki g c k).getD k 0=c.getD k 0:=by
 unfold Ki;have e:c.drop k=c[k]::c.drop (k+1):=drop_eq_getElem_cons hk;have e0:c.getD k 0=c[k]:=by simp[hk]
 have e2:(c.take (k+1)).map g=(c.take k).map g++[g c[k]]:=by
  rw[take_add_one,getElem?_eq_getElem hk,map_append];rfl
 have e3:((c.take k).map g).length=k:=by simp;omega
 refine⟨?_,?_⟩
 .rw[e2,e,set_append_right _ _ (by omega),e3,Nat.sub_self,set_cons_zero,append_assoc,e0];rfl
 .rw[getD_eq_getElem?_getD,getElem?_append_right (by omega),e3,Nat.sub_self,e,e0];rfl
theorem jI{α:Type}{g:α->Pr->α}{a:α}{l:List Pr}{k:Nat}(hk:k<l.length):(l.take (k+1)).foldl g a=g ((l.take k).foldl g a) (l.getD k ay):=by
 rw[jZ hk,take_add_one,getElem?_eq_getElem hk,foldl_append];rfl
theorem aa9:EM []=replicate 49 (Value.int .i64 0):=rfl
theorem aa8(w:World):Nu (w.alloc (.cells (EM []).toArray 290)) w.heap.size [] :=
 ⟨ownsRow_lit (base:=0) (e:=290) (size:=49) w (EM []).toArray 1 (zq5 _) (by simp[maxLen]) rfl,ep.nil⟩
section
variable {w:World} {A:Nat} {f:CF} {av ov:Value}
theorem BO(h:Fm w A f av ov)(hO:aj f)(hl:∀p∈f.ap,p.l∈bL f/\p.r∈bL f)(ha:f.ap.length<=100000):Calls prog 198 #[.pointer (some ⟨A,0,none⟩)] w λe w'=>e=.returned (.tuple #[])/\Fm w' A (wU f) av ov/\ar (aG A av ov) w (aG A av ov) w':=by
 obtain⟨oa,oc,gw,-,-⟩:=am h.is.ow;subst gw;obtain⟨aa,ac,ko,-,-⟩:=am h.is.ap;subst ko;obtain⟨w0,mA⟩:∃w0,w0=w.alloc (.cells (EM []).toArray 290):=⟨_,rfl⟩;have tH:Below w.heap.size w w0:=by rw[mA];exact ah w _
 have hN0:Nu w0 w.heap.size []:=by rw[mA];exact aa8 w
 have h0:=h.below tH;have aH:∀k∈aG A (.slice aa f.ap.length ac) (.slice oa f.ow.length oc),k≠w.heap.size:=λk hk=>by have:=h.lt k hk;omega
 have x0:=h0.is.cls (i:=0) (by omega);have x1:=h0.is.cls (i:=1) (by omega);have x2:=h0.is.cls (i:=2) (by omega);have x3:=h0.is.cls (i:=3) (by omega);have x4:=h0.is.cls (i:=4) (by omega);unfold gZ at x0 x1 x2 x3 x4;have dT:=hO.cl;unfold kj at dT;have hcL:kj f=[f.cl.getD 0 0,f.cl.getD 1 0,f.cl.getD 2 0,f.cl.getD 3 0,f.cl.getD 4 0]:=rfl;obtain⟨y0,e0⟩:∃y,y=f.cl.getD 0 0:=⟨_,rfl⟩;obtain⟨y1,e1⟩:∃y,y=f.cl.getD 1 0:=⟨_,rfl⟩;obtain⟨y2,e2⟩:∃y,y=f.cl.getD 2 0:=⟨_,rfl⟩;obtain⟨y3,e3⟩:∃y,y=f.cl.getD 3 0:=⟨_,rfl⟩;obtain⟨y4,e4⟩:∃y,y=f.cl.getD 4 0:=⟨_,rfl⟩;rw[<-e0,<-e1,<-e2,<-e3,<-e4]at dT hcL;rw[<-e0]at x0;rw[<-e1]at x1;rw[<-e2]at x2;rw[<-e3]at x3;rw[<-e4]at x4;have l0:y0<24:=dT y0 (by simp);have l1:y1<24:=dT y1 (by simp);have l2:y2<24:=dT y2 (by simp);have l3:y3<24:=dT y3 (by simp);have l4:y4<24:=dT y4 (by simp);have j0:=AO (.int .i64 (y0:Int)) (.int .i64 (y1:Int)) (.int .i64 (y2:Int)) (.int .i64 (y3:Int)) (.int .i64 (y4:Int));have j1:=AP (.int .i64 (y0:Int)) (.int .i64 (y1:Int)) (.int .i64 (y2:Int)) (.int .i64 (y3:Int)) (.int .i64 (y4:Int));have j2:=AQ (.int .i64 (y0:Int)) (.int .i64 (y1:Int)) (.int .i64 (y2:Int)) (.int .i64 (y3:Int)) (.int .i64 (y4:Int));have j3:=AR (.int .i64 (y0:Int)) (.int .i64 (y1:Int)) (.int .i64 (y2:Int)) (.int .i64 (y3:Int)) (.int .i64 (y4:Int));have j4:=AS (.int .i64 (y0:Int)) (.int .i64 (y1:Int)) (.int .i64 (y2:Int)) (.int .i64 (y3:Int)) (.int .i64 (y4:Int));obtain⟨N,hNe⟩:∃N,N=w.heap.size:=⟨_,rfl⟩;rw[<-hNe]at hN0 aH;have HNe:=ab hNe;have H:=ab h;have H0:=ab h0;have J0:=ab tH;have tU:=ab aH;have xH:=ab hcL;have iH:=hO.owLen;have HO:=ab hO;have HL:=ab hl;have cF:Hid (Nu w0 N (([y0,y1,y2,y3,y4].take 0).foldl iS [])/\ar [N] w0 [N] w0):=ab ⟨hN0,ar.refl _ _⟩;clear h h0 e0 e1 e2 e3 e4 dT hcL hO hN0 tH aH hl;obtain⟨ag,hag⟩:∃ag,ag=Value.agg (EM []).toArray:=⟨_,rfl⟩;rw[aa9]at mA hag;simp only[replicate]at mA hag;go_enter func198,ntmps198;go_upto_region 1 with fail;rw[<-mA,<-hag,<-hNe];clear mA hNe hag;go_wp2_with fail
 go_loopw [15] (λi wx=>∃(k:Nat),k<=5/\i=.int .i64 k/\Hid (Nu wx N (([y0,y1,y2,y3,y4].take k).foldl iS [])/\ar [N] w0 [N] wx)) (λi _=>5-(intOf i).toNat)
 case atStart=>exact⟨0,zq5 _,rfl,cF⟩
 case round =>
  clear cF x0 x1 x2 x3 x4;obtain⟨k,hk,rfl,hI⟩:=hrel;obtain⟨m,hm⟩:∃m,m=([y0,y1,y2,y3,y4].take k).foldl iS []:=⟨_,rfl⟩;have HM:=ab hm;rw[<-hm]at hI;clear hm;have B5:Hid (∀c:Nat,c<24->Calls prog 223 #[.pointer (some ⟨N,0,none⟩),.int .i64 c] wr λe w'=>e=.returned (.tuple #[])/\Nu w' N (iS m c)/\ar [N] w0 [N] w'):=ab (λc hc=>(wA (uh hI).1 hc).mono (λe w' hw=>⟨hw.1,hw.2.1,(uh hI).2.trans hw.2.2⟩));have vP:k=0\/k=1\/k=2\/k=3\/k=4\/k=5:=by omega
  rcases vP with rfl|rfl|rfl|rfl|rfl|rfl
  .go_wp2_with fail
   refine(uh B5 y0 l0).mono ?_;rintro e w1 ⟨rfl,rH,dy⟩;have LY:Hid (Nu w1 N (([y0,y1,y2,y3,y4].take 1).foldl iS [])/\ar [N] w0 [N] w1):=ab ⟨by rw[uh HM]at rH;exact rH,dy⟩;clear rH dy;go_wp2_with fail
   go_roundw
   case rel=>exact⟨1,by omega,by go_num,LY⟩
   case measure=>simp[intOf]
  .go_wp2_with fail
   refine(uh B5 y1 l1).mono ?_;rintro e w1 ⟨rfl,rH,dy⟩;have LY:Hid (Nu w1 N (([y0,y1,y2,y3,y4].take 2).foldl iS [])/\ar [N] w0 [N] w1):=ab ⟨by rw[uh HM]at rH;exact rH,dy⟩;clear rH dy;go_wp2_with fail
   go_roundw
   case rel=>exact⟨2,by omega,by go_num,LY⟩
   case measure=>simp[intOf]
  .go_wp2_with fail
   refine(uh B5 y2 l2).mono ?_;rintro e w1 ⟨rfl,rH,dy⟩;have LY:Hid (Nu w1 N (([y0,y1,y2,y3,y4].take 3).foldl iS [])/\ar [N] w0 [N] w1):=ab ⟨by rw[uh HM]at rH;exact rH,dy⟩;clear rH dy;go_wp2_with fail
   go_roundw
   case rel=>exact⟨3,by omega,by go_num,LY⟩
   case measure=>simp[intOf]
  .go_wp2_with fail
   refine(uh B5 y3 l3).mono ?_;rintro e w1 ⟨rfl,rH,dy⟩;have LY:Hid (Nu w1 N (([y0,y1,y2,y3,y4].take 4).foldl iS [])/\ar [N] w0 [N] w1):=ab ⟨by rw[uh HM]at rH;exact rH,dy⟩;clear rH dy;go_wp2_with fail
   go_roundw
   case rel=>exact⟨4,by omega,by go_num,LY⟩
   case measure=>simp[intOf]
  .go_wp2_with fail
   refine(uh B5 y4 l4).mono ?_;rintro e w1 ⟨rfl,rH,dy⟩;have LY:Hid (Nu w1 N (([y0,y1,y2,y3,y4].take 5).foldl iS [])/\ar [N] w0 [N] w1):=ab ⟨by rw[uh HM]at rH;exact rH,dy⟩;clear rH dy;go_wp2_with fail
   go_roundw
   case rel=>exact⟨5,by omega,by go_num,LY⟩
   case measure=>simp[intOf]
  .rw[show((5:Nat):Int)=(5:Int) from rfl];have Cq:m=(kj f).foldl iS []:=(by rw[uh HM,uh xH];rfl);have gf:=(uh H0).is.of_eq (w':=wr) (λj hj=>(uh hI).2.block j ((uh H0).lt j hj) (by simpa using uh tU j hj));have L5:=ab (xj gf (uh hI).1 (uh tU) (uh HO).ow (k0:=0) (by omega));have dh:=ab (uh hI).2;rw[Cq]at L5;clear j0 j1 j2 j3 j4 l0 l1 l2 l3 l4 Cq gf hI HM B5;go_wp2_with fail
   refine(uh L5).mono ?_;rintro e w1 ⟨rfl,rH,dy⟩;have oW:=(uh dh).trans dy;have gf:=(uh H0).is.of_eq (w':=w1) (λj hj=>oW.block j ((uh H0).lt j hj) (by simpa using uh tU j hj));have c6:=gf.c6;obtain⟨M1,hM1⟩:∃M1,M1=pi f 25 0 ((kj f).foldl iS []):=⟨_,rfl⟩;have HM1:=ab hM1;rw[<-hM1]at rH;have fG:Hid (Nu w1 N ((f.ow.take 0).foldl (zF f) M1)/\ar [N] w0 [N] w1):=ab ⟨rH,oW⟩;clear rH dy oW gf L5 hM1 dh;go_wp2_with fail
   go_loopw [30] (λi wx=>∃(k:Nat),k<=f.ow.length/\i=.int .i64 k/\Hid (Nu wx N ((f.ow.take k).foldl (zF f) M1)/\ar [N] w0 [N] wx)) (λi _=>f.ow.length-(intOf i).toNat)
   case atStart=>exact⟨0,zq5 _,rfl,fG⟩
   case round =>
    clear fG c6;obtain⟨k,hk,rfl,hI⟩:=hrel;have gf:=(uh H0).is.of_eq (w':=wr) (λj hj=>(uh hI).2.block j ((uh H0).lt j hj) (by simpa using uh tU j hj));by_cases au:k<f.ow.length
    .have hd:decide ((k:Int)<(f.ow.length:Int))=true:=(by simp;omega);obtain⟨g,cap,dE,-,-⟩:=aE gf.ow au;simp only[Value.slice.injEq,true_and]at dE;obtain⟨rfl,rfl⟩:=dE;obtain⟨x0,x1,x2⟩:=aB gf.ow au;have kZ:=((uh HO).ow _ (aY au)).1;have qq:=jI (g:=zF f) (a:=M1) au;obtain⟨p,hp⟩:∃p,p=f.ow.getD k ay:=⟨_,rfl⟩;rw[<-hp]at x0 x1 x2 kZ qq;obtain⟨m,hm⟩:∃m,m=(f.ow.take k).foldl (zF f) M1:=⟨_,rfl⟩;rw[<-hm]at hI qq;obtain⟨-,n1,-⟩:=Gq wr (Value.int .i64 p.k) (.int .i64 p.l) (.int .i64 p.r) 182;have St:=(uh hI).1.below (ah wr (.cells #[Value.int .i64 p.k,.int .i64 p.l,.int .i64 p.r] 182));have IB:=St.count;have fI:=St.ok.len;have B5:=ab (wA St kZ);have Ga:ar [N] w0 [N] (wr.alloc (.cells #[Value.int .i64 p.k,.int .i64 p.l,.int .i64 p.r] 182)):=(uh hI).2.trans (ar.ofBw (ah wr _));have yF:=ab Ga;have LX:=ab qq;have i1:(0:Int)<=(k:Int):=(by omega);have i2:(k:Int)<(f.ow.length:Int):=(by omega);obtain⟨L,hL⟩:∃L,L=m.length:=⟨_,rfl⟩;have HLm:=ab hL;rw[<-hL]at IB fI;clear hp hm St Ga qq gf hI hL;go_wp2_with fail
     refine(uh B5).mono ?_;rintro e w2 ⟨rfl,C3,gS⟩;have aaA:=(uh yF).trans gS;have pp:=(uh H0).is.of_eq (w':=w2) (λj hj=>aaA.block j ((uh H0).lt j hj) (by simpa using uh tU j hj));have L5:=ab (xj pp C3 (uh tU) (uh HO).ow (k0:=L) fI);have dg:=ab aaA;clear C3 gS aaA pp B5 yF n1 IB;go_wp2_with fail
     refine(uh L5).mono ?_;rintro e w3 ⟨rfl,Ci,gi⟩;have HN3:Hid (Nu w3 N ((f.ow.take (k+1)).foldl (zF f) M1)/\ar [N] w0 [N] w3):=ab ⟨by
      rw[uh LX];unfold zF;rw[uh HLm]at Ci;exact Ci,(uh dg).trans gi⟩
     clear Ci gi L5 dg;go_wp2_with fail
     go_roundw
     case rel=>exact⟨k+1,by omega,by go_num,HN3⟩
     case measure=>simp[intOf];omega
    .have hd:decide ((k:Int)<(f.ow.length:Int))=false:=(by simp;omega);have kE:k=f.ow.length:=(by omega);have Dr:(f.ow.take k).foldl (zF f) M1=df f:=(by rw[kE,take_length,uh HM1];rfl);rw[Dr]at hI;obtain⟨R,hR⟩:∃R,R=df f:=⟨_,rfl⟩;rw[<-hR]at hI;have HR:=ab hR;have hFm:Fm wr A f (.slice aa f.ap.length ac) (.slice oa f.ow.length oc):=(uh H0).of_eq (λj hj=>(uh hI).2.block j ((uh H0).lt j hj) (by simpa using uh tU j hj));have iY:Hid (Fm wr A { f with cl:=Ki (λc=>R.idxOf c) f.cl 0 } (.slice aa f.ap.length ac) (.slice oa f.ow.length oc)/\Nu wr N R/\ar (N::aG A (.slice aa f.ap.length ac) (.slice oa f.ow.length oc)) w0 (N::aG A (.slice aa f.ap.length ac) (.slice oa f.ow.length oc)) wr):=ab ⟨by simpa[Ki] using hFm,(uh hI).1,(uh hI).2.wide (λj hj=>by rw[mem_singleton]at hj;subst hj;simp)⟩;clear kE Dr hR hFm gf hI;go_wp2_with fail
     go_loopw [8] (λi wx=>∃(k:Nat),k<=5/\i=.int .i64 k/\Hid (Fm wx A { f with cl:=Ki (λc=>R.idxOf c) f.cl k } (.slice aa f.ap.length ac) (.slice oa f.ow.length oc)/\Nu wx N R/\ar (N::aG A (.slice aa f.ap.length ac) (.slice oa f.ow.length oc)) w0 (N::aG A (.slice aa f.ap.length ac) (.slice oa f.ow.length oc)) wx)) (λi _=>5-(intOf i).toNat)
     case atStart=>exact⟨0,zq5 _,rfl,iY⟩
     case round =>
      clear iY;obtain⟨k,hk,rfl,hI⟩:=hrel;by_cases au:k<5
      .have hd:decide ((k:Int)<(5:Int))=true:=(by simp;omega);have aP:=Ns (g:=λc=>R.idxOf c) (c:=f.cl) (k:=k) (by have:=(uh HO).c5;omega);have AA:=(uh HO).get k;have oT:f.cl.getD k 0∈R:=(by rw[uh HR];exact(rp (uh HO).ow (uh HO).cl).2.2.1 _ (gG au));obtain⟨c,hc⟩:∃c,c=f.cl.getD k 0:=⟨_,rfl⟩;rw[<-hc]at aP AA oT;have x:wr.cell? ⟨A,k,none⟩=some (.int .i64 (c:Int)):=by
        have:=(uh hI).1.is.cls au;unfold gZ at this;rw[this];show some (Value.int .i64 (((Ki (λc=>R.idxOf c) f.cl k).getD k 0:Nat):Int))=_;rw[aP.2]
       have fz:wr.frozen? ⟨A,k,none⟩=false:=ownsRow.frozenAt (uh hI).1.is.ob k;have q1:=(uh hI).2.1.fresh AA;have e1:CY R c=R.idxOf c+1:=(by unfold CY;rw[if_pos oT]);rw[e1]at q1;have v7:=(uh hI).1.setCl k (R.idxOf c) au;rw[show({ f with cl:=Ki (λc=>R.idxOf c) f.cl k }:CF).cl=Ki (λc=>R.idxOf c) f.cl k from rfl,<-aP.1]at v7;have hAN:A≠N:=uh tU A (by simp[aG]);obtain⟨y,hy⟩:∃y,y=R.idxOf c:=⟨_,rfl⟩;rw[<-hy]at q1 v7;have asr:y<24:=(by rw[hy];exact m9 (uh hI).2.1.ok oT);rw[show((y+1:Nat):Int)=(y:Int)+1 by omega]at q1;have Em:Hid (Fm (wr.setCell ⟨A,k,none⟩ (.int .i64 (y:Int))) A { f with cl:=Ki (λc=>R.idxOf c) f.cl (k+1) } (.slice aa f.ap.length ac) (.slice oa f.ow.length oc)/\Nu (wr.setCell ⟨A,k,none⟩ (.int .i64 (y:Int))) N R/\ar (N::aG A (.slice aa f.ap.length ac) (.slice oa f.ow.length oc)) w0 (N::aG A (.slice aa f.ap.length ac) (.slice oa f.ow.length oc)) (wr.setCell ⟨A,k,none⟩ (.int .i64 (y:Int)))):=ab ⟨v7,(uh hI).2.1.of_eq (heap_setCell _ _ _ _ (λe=>hAN e.symm)),(uh hI).2.2.setCell (p:=⟨A,k,none⟩) (zq0 (by simp[aG])) _⟩;have i1:(0:Int)<=(k:Int):=(by omega);have i2:(k:Int)<(5:Int):=(by omega);have i3:(c:Int)<(24:Int):=(by omega);clear aP oT hc e1 v7 hy hAN hI;go_wp2_with fail
       go_region
       go_wp2_with fail
       go_roundw
       case rel=>exact⟨k+1,by omega,by go_num,ab ⟨(uh Em).1.of_eq (λ_ _=>rfl),(uh Em).2.1.of_eq rfl,(uh Em).2.2.drew⟩⟩
       case measure=>simp[intOf];omega
      .have hd:decide ((k:Int)<(5:Int))=false:=(by simp;omega);have FP:k=5:=(by omega);have dT:Ki (λc=>R.idxOf c) f.cl k=(kj f).map (λc=>R.idxOf c):=by
        rw[ua (uh HO).c5];unfold Ki;have h5:=(uh HO).c5;rw[take_of_length_le (by omega),drop_eq_nil_of_le (by omega),append_nil]
       rw[dT]at hI;have it:∀c∈bL f,c∈R:=(by rw[uh HR];exact lG (uh HO).ow (uh HO).cl (uh HO).lf);have Ev:=(uh hI).1;have c6:=Ev.is.c6;have hNE:=uh tU;have Ye:=ab (yN Ev.is.ow (uh hI).2.1 (λe=>hNE N (by simp only[aG,mem_cons,mem_append,Option.mem_toList];exact zq1 (zq1 e)) rfl) (λp hp=>⟨it _ (mem_append_right _ (mem_flatMap.2 ⟨p,hp,by simp⟩)),it _ (mem_append_right _ (mem_flatMap.2 ⟨p,hp,by simp⟩))⟩) (zq3 iH (by omega)));have HLV:=ab it;clear dT FP it Ev hNE;go_wp2_with fail
       refine(uh Ye).mono ?_;rintro e w4 ⟨rfl,Ct,vZ⟩;obtain⟨r9,agM⟩:=(uh hI).1.newRow (ow':=f.ow.map (jk R)) (by simp) Ct vZ;have hNE:=uh tU;have OM:Nu w4 N R:=(uh hI).2.1.of_eq (vZ.block N (uh hI).2.1.ltN (λhj=>hNE N (by simp only[aG,mem_cons,mem_append];exact zq1 (zq1 hj)) rfl));have c5:=r9.is.c5;have adz:=ab (yN r9.is.ap OM (λe=>hNE N (by simp only[aG,mem_cons,mem_append,Option.mem_toList];exact zq1 (zq0 e)) rfl) (λp hp=>⟨uh HLV _ (uh HL p hp).1,uh HLV _ (uh HL p hp).2⟩) ha);have Wy:=ab r9;have mE:Hid (ar (N::aG A (.slice aa f.ap.length ac) (.slice oa f.ow.length oc)) w0 (N::aG A (.slice aa f.ap.length ac) (.slice oa f.ow.length oc)) w4):=ab ((uh hI).2.2.trans (agM.wide (λj hj=>mem_cons_of_mem _ hj)));clear Ct vZ r9 agM hNE OM Ye;go_wp2_with fail
       refine(uh adz).mono ?_;rintro e w5 ⟨rfl,AG,qN⟩;obtain⟨C2,AI⟩:=(uh Wy).newRowA (ap':=f.ap.map (jk R)) (by simp) AG qN;have Wz:Hid (Fm w5 A (wU f) (.slice aa f.ap.length ac) (.slice oa f.ow.length oc)):=ab (by unfold wU;rw[<-uh HR];exact C2);have tB:Hid (ar (aG A (.slice aa f.ap.length ac) (.slice oa f.ow.length oc)) w (aG A (.slice aa f.ap.length ac) (.slice oa f.ow.length oc)) w5):=ab (by
        have h1:=(uh mE).trans (AI.wide (λj hj=>mem_cons_of_mem _ hj));have hb:=uh J0;exact⟨h1.os.trans hb.os,h1.tape.trans hb.tape,h1.output.trans hb.output,zq3 hb.size h1.size,λj hj hn=>(h1.block j (zq6 hj hb.size) (by
         rw[mem_cons,not_or];exact⟨by have:=uh HNe;omega,hn⟩)).trans (hb.block j hj),λj hj=>zq0 hj⟩)
       clear AG qN C2 AI adz;go_wp2_with fail
       go_end0
       exact⟨rfl,uh Wz,uh tB⟩
end
