import Derived.Test.YtciihepbeacppaaGreatM08
set_option maxRecDepth 100000
set_option maxHeartbeats 0
namespace Go.Proofs.YtciihepbeacppaaGreat
open Tryz Go.RowKit List World Below
set_option linter.unusedVariables false
def dl(l:List Bool):List Value:=l.map Value.bool
theorem fP{l:List Bool}{j:Nat}(h:j<l.length):(dl l)[j]?=some (.bool (l.getD j false)):=by simp[dl,h]
theorem lW(l:List Bool)(j:Nat)(b:Bool):(dl l).set j (.bool b)=dl (l.set j b):=by simp[dl,map_set]
def fK(bl:List Bool)(seen:List Nat):Prop:=bl.length=24/\∀c,c<24->(bl.getD c false=true↔c∈seen)
theorem fK.add{bl:List Bool}{seen:List Nat}(h:fK bl seen){c:Nat}(hc:c<24):fK (bl.set c true) (c::seen):=by
 refine⟨by simpa using h.1,λd hd=>?_⟩;rw[dq _ _ _ _ _ (by rw[h.1];exact hc),mem_cons];by_cases e:c=d
 .rw[if_pos e];simp[e]
 .rw[if_neg e,h.2 d hd];exact⟨zq1,λh=>h.resolve_left (λh=>e h.symm)⟩
theorem N8{f:CF}{k:Nat}(hk:k<f.ap.length)(h:f.ap[k].l=f.ap[k].r):gH f=true:=by
 unfold gH;have:f.ap.any (λp=>p.l==p.r)=true:=any_eq_true.2 ⟨_,getElem_mem hk,by simpa using h⟩;rw[this];rfl
theorem Fp{f:CF}(h:∀j,(hj:j<f.ap.length)->f.ap[j].l≠f.ap[j].r):gH f=tG [f.cl.getD 0 0] f.ow:=by
 unfold gH;have:f.ap.any (λp=>p.l==p.r)=false:=by
  rw[any_eq_false];intro p hp;obtain⟨j,hj,rfl⟩:=mem_iff_getElem.1 hp;simpa using h j hj
 rw[this];rfl
theorem Kn{w:World}{A:Nat}{f:CF}{av ov:Value}(h:eP w A f av ov)(hR:Rm f)(h0:f.cl.getD 0 0<24):
  Calls prog 115 #[.pointer (some ⟨A,0,none⟩)] w λe w'=>e=.returned (.bool (gH f))/\Below w.heap.size w w':=by
 obtain⟨ao,cap,ko,hm',Mq,hc⟩:=dQ h.ap;have hm:cap<=9223372036854775807:=by unfold maxLen at hm';omega
 have h5:=h.c5;rw[ko]at h5;have HC:=ab hc;have HF:=ab h;clear hc ko h hm';go_enter func115,ntmps115;go_wp2_with fail
 go_loopw [13] (λi wr=>∃k:Nat,k<=f.ap.length/\i=.int .i64 k/\Hid (∀j,(hj:j<f.ap.length)->j<k->f.ap[j].l≠f.ap[j].r)/\Hid (Below w.heap.size w wr)) (λi _=>f.ap.length-(intOf i).toNat)
 case atStart=>exact⟨0,zq5 _,rfl,λ_ _ h=>absurd h (by omega),ab (Below.refl _ _)⟩
 case round =>
  obtain⟨k,hk,rfl,d9,cK⟩:=hrel;by_cases au:k<f.ap.length
  .obtain⟨g,s8,ax⟩:=uh HC (by intro h;rw[h]at au;simp at au);subst s8;obtain⟨EI,tp,pU⟩:=ax k au;have c0:=((uh cK).cell (block_lt_of_cell? w _ EI)).trans EI;have c1:=((uh cK).cell (block_lt_of_cell? w _ tp)).trans tp;have c2:=((uh cK).cell (block_lt_of_cell? w _ pU)).trans pU;clear ax EI tp pU;obtain⟨p,hp⟩:∃p,p=f.ap[k]:=⟨_,rfl⟩;rw[<-hp]at c0 c1 c2;have HP:=ab hp;have R5:=ab ((uh cK).alloc (uh cK).size (.cells #[Value.int .i64 p.k,.int .i64 p.l,.int .i64 p.r] 182));obtain⟨-,n1,n2⟩:=Gq wr (Value.int .i64 p.k) (.int .i64 p.l) (.int .i64 p.r) 182;clear hp;by_cases tI:p.l=p.r
   .have he:((p.l:Int)==(p.r:Int))=true:=(by rw[bf];simpa using tI);have HE:Hid (gH f=true):=ab (N8 au (by rw[<-uh HP];exact tI));clear tI;go_wp2_with fail
    go_ret;exact⟨by rw[uh HE];rfl,uh R5⟩
   .have he:((p.l:Int)==(p.r:Int))=false:=(by rw[bf];simpa using tI);have HLR:=ab tI;clear tI;go_wp2_with fail
    go_roundw
    case rel =>
     refine⟨k+1,by omega,by go_num,ab (λj hj IE=>?_),R5⟩;by_cases e:j=k
     .subst e;rw[<-uh HP];exact uh HLR
     .exact d9.out j hj (by omega)
    case measure=>simp[intOf];omega
  .have hd:decide ((k:Int)<(f.ap.length:Int))=false:=(by simp;omega);have HE:Hid (gH f=tG [f.cl.getD 0 0] f.ow):=ab (Fp (λj hj=>d9.out j hj (by omega)));have Un:=(uh HF).of_eq (λk hk=>(uh cK).block k ((uh HF).lt k hk));have h0r:=(Un.alloc (Obj.cells #[Value.bool false,Value.bool false,Value.bool false,Value.bool false,Value.bool false,Value.bool false,Value.bool false,Value.bool false,Value.bool false,Value.bool false,Value.bool false,Value.bool false,Value.bool false,Value.bool false,Value.bool false,Value.bool false,Value.bool false,Value.bool false,Value.bool false,Value.bool false,Value.bool false,Value.bool false,Value.bool false,Value.bool false] 240)).cls (i:=0) (by omega);unfold gZ at h0r;obtain⟨c0,EB⟩:∃c0,c0=f.cl.getD 0 0:=⟨_,rfl⟩;rw[<-EB]at h0r h0 HE;have Uh:Ob (wr.alloc (Obj.cells #[Value.bool false,Value.bool false,Value.bool false,Value.bool false,Value.bool false,Value.bool false,Value.bool false,Value.bool false,Value.bool false,Value.bool false,Value.bool false,Value.bool false,Value.bool false,Value.bool false,Value.bool false,Value.bool false,Value.bool false,Value.bool false,Value.bool false,Value.bool false,Value.bool false,Value.bool false,Value.bool false,Value.bool false] 240)) 240 24 wr.heap.size (dl (replicate 24 false)):=by
    exact ownsRow_lit (base:=0) (e:=240) (size:=24) wr (dl (replicate 24 false)).toArray 1 (zq5 _) (by simp[maxLen]) rfl
   obtain⟨⟨u0,Gb⟩,gX⟩:=Uh.some (j:=c0) h0;have OH:Ob (wr.alloc (Obj.cells ([Value.bool false,Value.bool false,Value.bool false,Value.bool false,Value.bool false,Value.bool false,Value.bool false,Value.bool false,Value.bool false,Value.bool false,Value.bool false,Value.bool false,Value.bool false,Value.bool false,Value.bool false,Value.bool false,Value.bool false,Value.bool false,Value.bool false,Value.bool false,Value.bool false,Value.bool false,Value.bool false,Value.bool false].set c0 (Value.bool true)).toArray 240)) 240 24 wr.heap.size (dl ((replicate 24 false).set c0 true)):=by
    have h1:=ownsRow_lit (base:=0) (e:=240) (size:=24) wr ([Value.bool false,Value.bool false,Value.bool false,Value.bool false,Value.bool false,Value.bool false,Value.bool false,Value.bool false,Value.bool false,Value.bool false,Value.bool false,Value.bool false,Value.bool false,Value.bool false,Value.bool false,Value.bool false,Value.bool false,Value.bool false,Value.bool false,Value.bool false,Value.bool false,Value.bool false,Value.bool false,Value.bool false].set c0 (Value.bool true)).toArray 1 (zq5 _) (by simp[maxLen]) (by simp);rw[<-lW];exact h1
   have hsn:fK ((replicate 24 false).set c0 true) [c0]:=by
    refine fK.add (seen:=[]) ⟨by simp,λc hc=>?_⟩ h0;rw[getD_eq_getElem?_getD,getElem?_replicate,if_pos hc];simp
   have qE:Below w.heap.size w (wr.alloc (Obj.cells ([Value.bool false,Value.bool false,Value.bool false,Value.bool false,Value.bool false,Value.bool false,Value.bool false,Value.bool false,Value.bool false,Value.bool false,Value.bool false,Value.bool false,Value.bool false,Value.bool false,Value.bool false,Value.bool false,Value.bool false,Value.bool false,Value.bool false,Value.bool false,Value.bool false,Value.bool false,Value.bool false,Value.bool false].set c0 (Value.bool true)).toArray 240)):=(uh cK).alloc (uh cK).size _;have gf:=(uh HF).of_eq (λk hk=>qE.block k ((uh HF).lt k hk));have h6:=gf.c6;obtain⟨oo,ocap,gw,agt,hon,hoc⟩:=dQ (uh HF).ow;have hom:ocap<=9223372036854775807:=(by unfold maxLen at agt;omega);rw[gw]at h6;have HOC:=ab hoc;have S1:=ab OH;have HSn:=ab hsn;have f8:=ab qE;obtain⟨D,hD⟩:∃D,D=wr.heap.size:=⟨_,rfl⟩;have hDB:w.heap.size<=D:=(by rw[hD];exact(uh cK).size);have Ej:=ab hD;have HC0:=ab EB;clear Un Uh OH hsn qE gf gw hoc agt hD EB;go_wp2_with fail
   obtain⟨w1,zn⟩:∃w1,w1=wr.alloc (Obj.cells ([Value.bool false,Value.bool false,Value.bool false,Value.bool false,Value.bool false,Value.bool false,Value.bool false,Value.bool false,Value.bool false,Value.bool false,Value.bool false,Value.bool false,Value.bool false,Value.bool false,Value.bool false,Value.bool false,Value.bool false,Value.bool false,Value.bool false,Value.bool false,Value.bool false,Value.bool false,Value.bool false,Value.bool false].set c0 (Value.bool true)).toArray 240):=⟨_,rfl⟩;rw[<-zn]at h6 S1 f8 ⊢;rw[<-uh Ej]at S1 ⊢;clear zn h0r Gb gX;go_loopw [34] (λi wr=>∃(k:Nat) (bl:List Bool) (seen:List Nat),k<=f.ow.length/\i=.int .i64 k/\Hid (Ob wr 240 24 D (dl bl))/\Hid (fK bl seen)/\Hid (tG seen (f.ow.drop k)=gH f)/\Hid (Below w.heap.size w wr)) (λi _=>f.ow.length-(intOf i).toNat)
   case atStart=>exact⟨0,_,[c0],zq5 _,rfl,S1,HSn,ab (uh HE).symm,f8⟩
   case round =>
    obtain⟨k,bl,seen,hk,rfl,hD2,hsn,hdu,KO⟩:=hrel;by_cases b7:k<f.ow.length
    .obtain⟨g,tL,ax⟩:=uh HOC (by intro h;rw[h]at b7;simp at b7);subst tL;obtain⟨EI,tp,pU⟩:=ax k b7;have c0':=((uh KO).cell (block_lt_of_cell? w _ EI)).trans EI;have c1:=((uh KO).cell (block_lt_of_cell? w _ tp)).trans tp;have c2:=((uh KO).cell (block_lt_of_cell? w _ pU)).trans pU;clear ax EI tp pU;obtain⟨kZ,-⟩:=hR _ (getElem_mem b7);obtain⟨p,hp⟩:∃p,p=f.ow[k]:=⟨_,rfl⟩;rw[<-hp]at c0' c1 c2 kZ;have fC:tG seen (f.ow.drop k)=if p.l∈seen then true else tG (p.l::seen) (f.ow.drop (k+1)):=by
      rw[drop_eq_getElem_cons b7,<-hp];rfl
     rw[uh hdu]at fC;obtain⟨-,n1,n2⟩:=Gq wr (Value.int .i64 p.k) (.int .i64 p.l) (.int .i64 p.r) 182;have Kz:=(uh hD2).alloc (.cells #[Value.int .i64 p.k,.int .i64 p.l,.int .i64 p.r] 182);have hdl:bl.length=24:=(uh hsn).1;have d1:=(ownsRow.cellAt Kz p.l (by omega)).trans (fP (l:=bl) (by omega));have z1:=ownsRow.frozenAt Kz p.l;obtain⟨sb,Cu⟩:∃sb,sb=bl.getD p.l false:=⟨_,rfl⟩;rw[<-Cu]at d1;have KW:=(uh hsn).2 p.l kZ;rw[<-Cu]at KW;have tA:=ab ((uh KO).alloc (uh KO).size (.cells #[Value.int .i64 p.k,.int .i64 p.l,.int .i64 p.r] 182));have MH:=ab (Kz.set p.l (.bool true));rw[lW]at MH;have aj1:=ab ((uh hsn).add kZ);have HSt:=ab fC;have HIf:=ab KW;clear hp fC Kz Cu KW hD2 hsn hdu;cases sb with
     |true =>
      have zU:Hid (gH f=true):=ab (by rw[uh HSt,if_pos ((uh HIf).1 rfl)]);go_wp2_with fail
      go_ret;exact⟨by rw[uh zU];rfl,uh tA⟩
     |false =>
      have Yu:Hid (tG (p.l::seen) (f.ow.drop (k+1))=gH f):=ab (by
       rw[uh HSt,if_neg (λh=>by have:=(uh HIf).2 h;cases this)])
      have zT:=ab ((uh tA).setCell (p:=⟨D,p.l,none⟩) hDB (.bool true));go_wp2_with fail
      go_roundw
      case rel=>exact⟨k+1,_,p.l::seen,by omega,by go_num,MH,aj1,Yu,zT⟩
      case measure=>simp[intOf];omega
    .have kY:decide ((k:Int)<(f.ow.length:Int))=false:=(by simp;omega);have zU:Hid (gH f=false):=ab (by rw[<-uh hdu,drop_of_length_le (by omega)];rfl);go_wp2_with fail
     go_ret;exact⟨by rw[uh zU];rfl,uh KO⟩
def Bk(w:World)(A:Nat)(T:TypeId)(xs:List Value):Prop:=w.heap[A]?=some (.cells xs.toArray T (0,0))
section
variable {w w':World} {A T:Nat} {xs:List Value}
theorem Bk.lt(h:Bk w A T xs):A<w.heap.size:=(Array.getElem?_eq_some_iff.1 h).1
theorem Bk.of_eq(h:Bk w A T xs)(he:w'.heap[A]?=w.heap[A]?):Bk w' A T xs:=he.trans h
theorem Bk.cell(h:Bk w A T xs)(j:Nat){u:Value}(hj:xs[j]?=some u):w.cell? ⟨A,j,none⟩=some u:=by
 rw[cell_of_row w A j xs.toArray T (0,0) h];simpa using hj
theorem Bk.frz(h:Bk w A T xs)(j:Nat):w.frozen? ⟨A,j,none⟩=false:=frozen_of_row w A j xs.toArray T h
theorem Bk.set(h:Bk w A T xs)(j:Nat)(u:Value):Bk (w.setCell ⟨A,j,none⟩ u) A T (xs.set j u):=by
 have:=heap_setCell_same w A j xs.toArray T u h;unfold Bk;rw[this];simp
theorem Bk.new(w:World)(T:TypeId)(xs:List Value):Bk (w.alloc (.cells xs.toArray T)) w.heap.size T xs:=heap_alloc_new w _
theorem Bk.alloc(h:Bk w A T xs)(o:Obj):Bk (w.alloc o) A T xs:=h.of_eq (heap_alloc _ _ _ h.lt)
theorem Bk.below(h:Bk w A T xs)(hb:Below w.heap.size w w'):Bk w' A T xs:=h.of_eq (hb.block _ h.lt)
theorem Bk.stp{F F':List Nat}(h:Bk w A T xs)(hs:ar F w F' w')(hA:A ∉ F):Bk w' A T xs:=h.of_eq (hs.block _ h.lt hA)
theorem Bk.setO(h:Bk w A T xs){p:Addr}(hp:p.block≠A)(u:Value):Bk (w.setCell p u) A T xs:=h.of_eq (heap_setCell _ _ _ _ (λe=>hp e.symm))
end
section
variable {w w':World} {B e sz n:Nat} {v:Value} {xs:List Value}
theorem cE(h:w.ownsRow B e sz v n xs){p:Addr}(hp:v.ownBlock≠some p.block)(u:Value):(w.setCell p u).ownsRow B e sz v n xs :=
 ae h (λk hk=>heap_setCell _ _ _ _ (by rintro rfl;exact hp hk))
theorem dY{B':Nat}(h:w.ownsRow B e sz v n xs)(hb:B'<=B):w.ownsRow B' e sz v n xs:=by
 refine⟨h.1,?_⟩;rcases h.2 with hn|⟨g,cap,cur,rfl,hB,hg,rest⟩
 .exact .inl hn
 .exact .inr ⟨g,cap,cur,rfl,zq3 hb hB,hg,rest⟩
theorem eY(h:w.ownsRow B e sz v n xs)(hb:Below w.heap.size w w'):w'.ownsRow B e sz v n xs:=ae h (λk hk=>hb.block k (h.lt k hk).2)
theorem am(h:w.ownsRow B e sz v n xs):∃ao cap,v=.slice ao n cap/\n<=cap/\cap<=9223372036854775807:=by
 rcases h.2 with⟨rfl,rfl⟩|⟨g,cap,cur,rfl,_,_,h1,h2,_⟩
 .exact⟨_,_,rfl,by omega,by omega⟩
 .exact⟨_,_,rfl,h1,by unfold maxLen at h2;omega⟩
theorem b8(h:w.ownsRow B e sz v n xs)(hn:0<n):∃g cap,v=.slice (some ⟨g,0,none⟩) n cap/\n<=cap/\cap<=9223372036854775807/\g<w.heap.size:=by
 have hh:=h;rcases h.2 with⟨rfl,rfl⟩|⟨g,cap,cur,rfl,_,_,h1,h2,_⟩
 .omega
 .exact⟨_,_,rfl,h1,by unfold maxLen at h2;omega,(hh.lt g rfl).2⟩
end
theorem ar.foots{F F' F'':List Nat}{w w':World}(h:ar F w F' w')(hf:∀k∈F'',k∈F\/w.heap.size<=k):ar F w F'' w':=⟨h.os,h.tape,h.output,h.size,h.block,hf⟩
theorem ar.wide{F F' G:List Nat}{w w':World}(h:ar F w F' w')(hf:∀k∈F,k∈G):ar G w G w':=⟨h.os,h.tape,h.output,h.size,λk hk hG=>h.block k hk (λhF=>hG (hf k hF)),λ_ hk=>zq0 hk⟩
theorem ar.ofBw{F:List Nat}{w w':World}(h:Below w.heap.size w w'):ar F w F w':=⟨h.os,h.tape,h.output,h.size,λk hk _=>h.block k hk,λ_ hk=>zq0 hk⟩
structure Fm(w:World)(A:Nat)(f:CF)(av ov:Value):Prop where
 is:eP w A f av ov
 nd:(aG A av ov).Nodup
 c5:f.cl.length=5
section
variable {w w1 w':World} {A:Nat} {f:CF} {av ov v':Value}
theorem Fm.nds(h:Fm w A f av ov):av.ownBlock≠some A/\ov.ownBlock≠some A/\∀k,av.ownBlock=some k->ov.ownBlock≠some k:=by
 have:=h.nd;unfold aG at this;rw[nodup_cons,nodup_append]at this;obtain⟨h1,-,-,h4⟩:=this;simp only[mem_append,Option.mem_toList,not_or]at h1;exact⟨h1.1,h1.2,λk hk hc=>h4 k (by simpa using hk) k (by simpa using hc) rfl⟩
theorem Fm.of_eq(h:Fm w A f av ov)(he:∀k∈aG A av ov,w'.heap[k]?=w.heap[k]?):Fm w' A f av ov:=⟨h.is.of_eq he,h.nd,h.c5⟩
theorem Fm.lt(h:Fm w A f av ov):∀k∈aG A av ov,k<w.heap.size:=h.is.lt
theorem Fm.below(h:Fm w A f av ov)(hb:Below w.heap.size w w'):Fm w' A f av ov:=h.of_eq (λk hk=>hb.block k (h.lt k hk))
theorem nd3{a:Nat}{u v:Value}(h1:u.ownBlock≠some a)(h2:v.ownBlock≠some a)(h3:∀k,u.ownBlock=some k->v.ownBlock≠some k):(aG a u v).Nodup:=by
 unfold aG;rw[nodup_cons,nodup_append];refine⟨by simp only[mem_append,Option.mem_toList,not_or];exact⟨h1,h2⟩,by cases u.ownBlock <;> simp,by cases v.ownBlock <;> simp,?_⟩;intro x hx y hy e;subst e;rw[Option.mem_toList]at hx hy;exact h3 x hx hy
theorem lI{g:Nat}{o:Obj}{row:Option Nat}(hg:(w.alloc o).grownBy w1 row)(cB:some g=row\/g=(w.alloc o).heap.size):ar row.toList w [g] w1 :=
 ⟨hg.os,hg.tape,hg.output,zq3 (by simp) hg.size,λk hk hn=>(hg.block k (by simp;omega) (λe=>hn (by rw[<-e];simp))).trans (heap_alloc _ _ _ hk),λk hk=>by
  rw[mem_singleton]at hk;subst hk;rcases cB with e|e
  .left;rw[<-e];simp
  .right;rw[e];simp⟩
theorem Ob.stored{T n:Nat}{xs:List Value}(h:Ob w T n A xs)(j:Nat)(u:Value):Ob (w.setCell ⟨A,j,none⟩ u) T n A (xs.set j u):=(ownsRow.stored h j u).1
theorem Fm.newOv{ow':List Pr}{F':List Nat}(h:Fm w A f av ov)(hs:ar ov.ownBlock.toList w F' w1)(hF:∀k,v'.ownBlock=some k->k∈F')(hr:w1.ownsRow 0 182 3 v' ow'.length (af ow')):
  Fm (w1.setCell ⟨A,6,none⟩ v') A { f with ow:=ow' } av v'/\ar (aG A av ov) w (aG A av v') (w1.setCell ⟨A,6,none⟩ v'):=by
 obtain⟨n1,n2,n3⟩:=h.nds;have hA:A ∉ ov.ownBlock.toList:=by simpa using n2
 have hv:∀k,v'.ownBlock=some k->ov.ownBlock=some k\/w.heap.size<=k:=λk hk=>by
  rcases hs.foot k (hF k hk) with g|g
  .exact zq0 (by simpa using g)
  .exact zq1 g
 have Fz:=h.lt A (by simp[aG]);have hvA:v'.ownBlock≠some A:=λe=>by
  rcases hv A e with g|g
  .exact n2 g
  .omega
 have hva:∀k,av.ownBlock=some k->v'.ownBlock≠some k:=λk hk e=>by
  rcases hv k e with g|g
  .exact n3 k hk g
  .have:=h.lt k (by simp[aG,hk]);omega
 have ob1:Ob w1 179 7 A (ji f av ov):=h.is.ob.of_eq (hs.block A Fz hA);have o2:=ob1.stored 6 v';refine⟨⟨⟨o2,?_,?_⟩,nd3 n1 hvA hva,h.c5⟩,?_⟩
 .refine ae (w:=w) h.is.ap (λk hk=>?_);rw[heap_setCell _ _ _ _ (by show k≠A;rintro rfl;exact n1 hk)];exact hs.block k (h.lt k (by simp[aG,hk])) (by simpa using n3 k hk)
 .exact cE hr (p:=⟨A,6,none⟩) hvA v'
 .refine((hs.wide (G:=aG A av ov) (λk hk=>by simp only[aG,mem_cons,mem_append];exact zq1 (zq1 hk))).setCell (p:=⟨A,6,none⟩) (zq0 (by simp[aG])) v').foots (λk hk=>?_);simp only[aG,mem_cons,mem_append,Option.mem_toList]at hk ⊢;rcases hk with rfl|hk|hk
  .exact zq0 (zq0 rfl)
  .exact zq0 (zq1 (zq0 hk))
  .rcases hv k hk with g|g
   .exact zq0 (zq1 (zq1 g))
   .exact zq1 g
theorem Fm.newAv{ap':List Pr}{F':List Nat}(h:Fm w A f av ov)(hs:ar av.ownBlock.toList w F' w1)(hF:∀k,v'.ownBlock=some k->k∈F')(hr:w1.ownsRow 0 182 3 v' ap'.length (af ap')):
  Fm (w1.setCell ⟨A,5,none⟩ v') A { f with ap:=ap' } v' ov/\ar (aG A av ov) w (aG A v' ov) (w1.setCell ⟨A,5,none⟩ v'):=by
 obtain⟨n1,n2,n3⟩:=h.nds;have hA:A ∉ av.ownBlock.toList:=by simpa using n1
 have hv:∀k,v'.ownBlock=some k->av.ownBlock=some k\/w.heap.size<=k:=λk hk=>by
  rcases hs.foot k (hF k hk) with g|g
  .exact zq0 (by simpa using g)
  .exact zq1 g
 have Fz:=h.lt A (by simp[aG]);have hvA:v'.ownBlock≠some A:=λe=>by
  rcases hv A e with g|g
  .exact n1 g
  .omega
 have hva:∀k,v'.ownBlock=some k->ov.ownBlock≠some k:=λk hk e=>by
  rcases hv k hk with g|g
  .exact n3 k g e
  .have:=h.lt k (by simp[aG,e]);omega
 have ob1:Ob w1 179 7 A (ji f av ov):=h.is.ob.of_eq (hs.block A Fz hA);have o2:=ob1.stored 5 v';refine⟨⟨⟨o2,?_,?_⟩,nd3 hvA n2 hva,h.c5⟩,?_⟩
 .exact cE hr (p:=⟨A,5,none⟩) hvA v'
 .refine ae (w:=w) h.is.ow (λk hk=>?_);rw[heap_setCell _ _ _ _ (by show k≠A;rintro rfl;exact n2 hk)];exact hs.block k (h.lt k (by simp[aG,hk])) (by simpa using λe=>n3 k e hk)
 .refine((hs.wide (G:=aG A av ov) (λk hk=>by simp only[aG,mem_cons,mem_append];exact zq1 (zq0 hk))).setCell (p:=⟨A,5,none⟩) (zq0 (by simp[aG])) v').foots (λk hk=>?_);simp only[aG,mem_cons,mem_append,Option.mem_toList]at hk ⊢;rcases hk with rfl|hk|hk
  .exact zq0 (zq0 rfl)
  .rcases hv k hk with g|g
   .exact zq0 (zq1 (zq0 g))
   .exact zq1 g
  .exact zq0 (zq1 (zq1 hk))
theorem Fm.setCl(h:Fm w A f av ov)(i c:Nat)(hi:i<5):Fm (w.setCell ⟨A,i,none⟩ (.int .i64 (c:Int))) A { f with cl:=f.cl.set i c } av ov:=by
 obtain⟨n1,n2,n3⟩:=h.nds;have h5:=h.c5;refine⟨⟨?_,cE h.is.ap (p:=⟨A,i,none⟩) n1 _,cE h.is.ow (p:=⟨A,i,none⟩) n2 _⟩,h.nd,by simpa using h5⟩;have o:=h.is.ob.stored i (.int .i64 (c:Int));have e:(ji f av ov).set i (.int .i64 (c:Int))=ji { f with cl:=f.cl.set i c } av ov:=by
  obtain⟨a0,a1,a2,a3,a4,ha⟩:∃a0 a1 a2 a3 a4,f.cl=[a0,a1,a2,a3,a4]:=by
   match hc:f.cl,h5 with
   |[a0,a1,a2,a3,a4],_=>exact⟨a0,a1,a2,a3,a4,rfl⟩
  have hk:i=0\/i=1\/i=2\/i=3\/i=4:=by omega
  rcases hk with rfl|rfl|rfl|rfl|rfl <;> simp[ji,gZ,ha]
 rw[e]at o;exact o
end
theorem rj(p:Pr):∀u∈VJ p,u.oneCell'=true:=by
 intro u hu;simp only[VJ,mem_cons,not_mem_nil,or_false]at hu;rcases hu with rfl|rfl|rfl <;> rfl
section
variable {w:World} {A:Nat} {f:CF} {av ov:Value}
theorem qX(h:Fm w A f av ov)(k l r:Nat)(hn:f.ow.length<=100000):Calls prog 254 #[.pointer (some ⟨A,0,none⟩),.int .i64 k,.int .i64 l,.int .i64 r] w λe w'=>e=.returned (.tuple #[])/\∃ov',Fm w' A { f with ow:=f.ow++[⟨k,l,r⟩] } av ov'/\ar (aG A av ov) w (aG A av ov') w':=by
 obtain⟨i0,hi,gX,gy,gK⟩:=info_parts infoPair;have H:=ab h;have c6:=h.is.c6;have HS:=ab h.is.ow;obtain⟨sa,sc,hs,-,-⟩:=am h.is.ow;subst hs;clear h;go_enter func254,ntmps254;go_wp2_with (at_builtin;refine aS _ rfl (.tmp 12) (.tmp 17) 177 rfl 0 182 i0 _ 3 24 underlying177 hi gX gy gK rfl (by decide) _ f.ow.length (af f.ow) rfl ((uh HS).alloc _) ⟨_,0,none⟩ 1 [.int .i64 (k:Int),.int .i64 (l:Int),.int .i64 (r:Int)] rfl rfl (aN _ _ (by simp) [.int .i64 (k:Int),.int .i64 (l:Int),.int .i64 (r:Int)] _) (rj ⟨k,l,r⟩) (by omega) (by omega) (zq5 _) ?_)
 intro g1 cap1 w1 fN dL kA;have dy:=lI dL (by simpa using kA);have hf:=(uh H).newOv (ow':=f.ow++[⟨k,l,r⟩]) dy (v':=.slice (some ⟨g1,0,none⟩) (f.ow.length+1) cap1) (λk hk=>by simpa[Value.ownBlock] using hk.symm) (by
  rw[length_append,length_singleton,eZ];exact fN)
 have ob1:=(uh H).is.ob.of_eq (dy.block A ((uh H).lt A (by simp[aG])) (by simpa using (uh H).nds.2.1));have d6:=ownsRow.cellAt ob1 6 (by omega);have f6:=ownsRow.frozenAt ob1 6;have HF:=ab hf;clear fN dL kA dy hf ob1 c6;go_wp2_with fail
 go_end0
 exact⟨rfl,_,(uh HF).1,(uh HF).2⟩
theorem rh(h:Fm w A f av ov)(l r:Nat)(hn:f.ap.length<=100000):Calls prog 259 #[.pointer (some ⟨A,0,none⟩),.int .i64 l,.int .i64 r] w λe w'=>e=.returned (.tuple #[])/\∃av',Fm w' A { f with ap:=f.ap++[⟨2,l,r⟩] } av' ov/\ar (aG A av ov) w (aG A av' ov) w':=by
 obtain⟨i0,hi,gX,gy,gK⟩:=info_parts infoPair;have H:=ab h;have c5:=h.is.c5;have HS:=ab h.is.ap;obtain⟨sa,sc,hs,-,-⟩:=am h.is.ap;subst hs;clear h;go_enter func259,ntmps259;go_wp2_with (at_builtin;refine aS _ rfl (.tmp 10) (.tmp 14) 177 rfl 0 182 i0 _ 3 24 underlying177 hi gX gy gK rfl (by decide) _ f.ap.length (af f.ap) rfl ((uh HS).alloc _) ⟨_,0,none⟩ 1 [.int .i64 2,.int .i64 (l:Int),.int .i64 (r:Int)] rfl rfl (aN _ _ (by simp) [.int .i64 2,.int .i64 (l:Int),.int .i64 (r:Int)] _) (rj ⟨2,l,r⟩) (by omega) (by omega) (zq5 _) ?_)
 intro g1 cap1 w1 fN dL kA;have dy:=lI dL (by simpa using kA);have hf:=(uh H).newAv (ap':=f.ap++[⟨2,l,r⟩]) dy (v':=.slice (some ⟨g1,0,none⟩) (f.ap.length+1) cap1) (λk hk=>by simpa[Value.ownBlock] using hk.symm) (by
  rw[length_append,length_singleton,eZ];exact fN)
 have ob1:=(uh H).is.ob.of_eq (dy.block A ((uh H).lt A (by simp[aG])) (by simpa using (uh H).nds.1));have d6:=ownsRow.cellAt ob1 5 (by omega);have f6:=ownsRow.frozenAt ob1 5;have HF:=ab hf;clear fN dL kA dy hf ob1 c5;go_wp2_with fail
 go_end0
 exact⟨rfl,_,(uh HF).1,(uh HF).2⟩
end
theorem ah(w:World)(o:Obj):Below w.heap.size w (w.alloc o):=(Below.refl _ _).alloc (zq4 _) o
section
variable {w:World} {A:Nat} {f:CF} {av ov:Value}
def J9(w:World)(f:CF)(A':Nat)(w':World):Prop:=∃av' ov',Fm w' A' f av' ov'/\(∀k∈aG A' av' ov',w.heap.size<=k)/\Below w.heap.size w w'
theorem Jk{w0:World}{e sz n:Nat}{v:Value}{xs:List Value}(h:w.ownsRow w0.heap.size e sz v n xs):∀k,v.ownBlock=some k->w0.heap.size<=k/\k<w.heap.size:=λk hk=>h.lt k hk
theorem cP(h:eP w A f av ov)(h5:f.cl.length=5)(ha:f.ap.length<=40000)(ho:f.ow.length<=40000):Calls prog 241 #[.pointer (some ⟨A,0,none⟩)] w λe w'=>∃A',e=.returned (.pointer (some ⟨A',0,none⟩))/\J9 w f A' w':=by
 obtain⟨i0,lr,gX,gy,gK⟩:=info_parts infoPair;have H:=ab h;have ce:=ah w (.cells #[] 182);have c5:=(h.alloc (.cells #[] 182)).c5;have HLa:=ab ((WP.of_own h.ap ha).below ce);have uX:=ab (ownsRow_lit (base:=w.heap.size) (e:=182) (size:=3) w #[] 0 (zq4 _) (by simp[maxLen]) rfl);obtain⟨aa,ac,ko,-,-⟩:=am h.ap;obtain⟨oa,oc,gw,-,-⟩:=am h.ow;have HAV:=ab ko;have LZ:=ab gw;rw[ko]at c5 HLa;clear h ce ko gw;go_enter func241,ntmps241;go_wp2_with (at_builtin;refine nP rfl (.tmp 5) (.tmp 9) 177 rfl w.heap.size 182 i0 _ 3 24 underlying177 lr gX gy gK rfl (by decide) _ 0 [] rfl (uh uX) _ f.ap.length (af f.ap) rfl (uh HLa) (nE f.ap) (by omega) (by decide) (by simp) ?_)
 intro v1 w1 fN dL;have bz:Below w.heap.size w w1:=((Below.refl w.heap.size w).alloc (zq4 _) _).grown dL (by simp) (λk e=>by cases e;exact zq4 _);have h1:=(uh H).of_eq (w':=w1) (λk hk=>bz.block k ((uh H).lt k hk));have hb1x:=ah w1 (.cells #[] 182);have c6:=(h1.alloc (.cells #[] 182)).c6;have HLo:=ab ((WP.of_own h1.ow ho).below hb1x);have Yw:=ab (ownsRow_lit (base:=w1.heap.size) (e:=182) (size:=3) w1 #[] 0 (zq4 _) (by simp[maxLen]) rfl);rw[uh LZ]at c6 HLo;obtain⟨a1,k1,rfl⟩:=bC fN;have S9:=ab fN;have f8:=ab bz;have H1:=ab h1;clear fN dL bz h1 hb1x c5 HLa uX;go_wp2_with (at_builtin;refine nP rfl (.tmp 11) (.tmp 15) 177 rfl w1.heap.size 182 i0 _ 3 24 underlying177 lr gX gy gK rfl (by decide) _ 0 [] rfl (uh Yw) _ f.ow.length (af f.ow) rfl (uh HLo) (nE f.ow) (by omega) (by decide) (by simp) ?_)
 intro v2 w2 br aM;have aW:Below w1.heap.size w1 w2:=((Below.refl w1.heap.size w1).alloc (zq4 _) _).grown aM (by simp) (λk e=>by cases e;exact zq4 _);have h2:=(uh H1).of_eq (w':=w2) (λk hk=>aW.block k ((uh H1).lt k hk));obtain⟨a2,k2,rfl⟩:=bC br;have x0:=h2.cls (i:=0) (by omega);have x1:=h2.cls (i:=1) (by omega);have x2:=h2.cls (i:=2) (by omega);have x3:=h2.cls (i:=3) (by omega);have x4:=h2.cls (i:=4) (by omega);have hN:J9 w f w2.heap.size (w2.alloc (.cells #[gZ f 0,gZ f 1,gZ f 2,gZ f 3,gZ f 4,.slice a1 f.ap.length k1,.slice a2 f.ow.length k2] 179)):=by
  have Z5:=(uh f8).trans (aW.mono (uh f8).size);have r1:=eY (uh S9) aW;have l1:=Jk (w0:=w) r1;have l1':=(uh S9).lt;have l2:=Jk (w0:=w1) br;have dy:=(uh f8).size;refine⟨.slice a1 f.ap.length k1,.slice a2 f.ow.length k2,⟨⟨?_,dY (r1.alloc _) (zq5 _),dY (br.alloc _) (zq5 _)⟩,nd3 (λe=>?_) (λe=>?_) (λk e1 e2=>?_),h5⟩,λk hk=>?_,Z5.alloc Z5.size _⟩
  .exact ownsRow_lit (base:=0) (e:=179) (size:=7) w2 #[gZ f 0,gZ f 1,gZ f 2,gZ f 3,gZ f 4,.slice a1 f.ap.length k1,.slice a2 f.ow.length k2] 1 (zq5 _) (by simp[maxLen]) rfl
  .have:=(l1 _ (by simpa[Value.ownBlock] using e)).2;omega
  .have:=(l2 _ (by simpa[Value.ownBlock] using e)).2;omega
  .have h1:=(l1' k (by simpa[Value.ownBlock] using e1)).2;have h2:=(l2 k (by simpa[Value.ownBlock] using e2)).1;omega
  .simp only[aG,mem_cons,mem_append,Option.mem_toList]at hk;rcases hk with rfl|hk|hk
   .exact Z5.size
   .exact(l1 k (by simpa[Value.ownBlock] using hk)).1
   .have:=(l2 k (by simpa[Value.ownBlock] using hk)).1;omega
 have HN:=ab hN;unfold gZ at x0 x1 x2 x3 x4 HN;obtain⟨y0,e0⟩:∃y,y=f.cl.getD 0 0:=⟨_,rfl⟩;obtain⟨y1,e1⟩:∃y,y=f.cl.getD 1 0:=⟨_,rfl⟩;obtain⟨y2,e2⟩:∃y,y=f.cl.getD 2 0:=⟨_,rfl⟩;obtain⟨y3,e3⟩:∃y,y=f.cl.getD 3 0:=⟨_,rfl⟩;obtain⟨y4,e4⟩:∃y,y=f.cl.getD 4 0:=⟨_,rfl⟩;rw[<-e0]at x0;rw[<-e1]at x1;rw[<-e2]at x2;rw[<-e3]at x3;rw[<-e4]at x4;rw[<-e0,<-e1,<-e2,<-e3,<-e4]at HN;clear e0 e1 e2 e3 e4 h5;clear br aM aW h2 hN c6;go_wp2_with fail
 go_ret;exact⟨_,rfl,uh HN⟩
end
def cM(kept gone c:Nat):Nat:=if c=gone then kept else c
def mj(kept gone:Nat)(p:Pr):Pr:=⟨p.k,cM kept gone p.l,cM kept gone p.r⟩
def mL(f:CF)(kept gone:Nat):CF:=⟨f.cl.map (cM kept gone),f.ap.map (mj kept gone),f.ow.map (mj kept gone)⟩
theorem jl{l:List Pr}{i:Nat}(hi:i<l.length)(c:Nat):(af l).set (i*3+1) (.int .i64 (c:Int))=af (l.set i ⟨(l.getD i ay).k,c,(l.getD i ay).r⟩):=by
 induction l generalizing i with
 |nil=>simp at hi
 |cons x l ih =>
  have hx:∀y:Pr,af (y::l)=[Value.int .i64 y.k,.int .i64 y.l,.int .i64 y.r]++af l:=λy=>rfl;cases i with
  |zero=>rw[hx,set_cons_zero,hx];rfl
  |succ i =>
   have h1:=ih (i:=i) (by simpa using hi);rw[hx,set_append_right _ _ (by simp;omega),set_cons_succ];show _=[Value.int .i64 x.k,.int .i64 x.l,.int .i64 x.r]++af _;rw[show(i+1)*3+1 - [Value.int .i64 (x.k:Int),.int .i64 (x.l:Int),.int .i64 (x.r:Int)].length=i*3+1 by simp;omega,h1];rfl
def tP(kept gone:Nat)(l:List Pr)(k:Nat):List Pr:=(l.take k).map (mj kept gone)++l.drop k
theorem VQ(kept gone:Nat)(l:List Pr)(k:Nat):(tP kept gone l k).length=l.length:=by simp[tP];omega
theorem VP{kept gone:Nat}{l:List Pr}{k:Nat}(hk:k<l.length):(tP kept gone l k).getD k ay=l[k]:=by
 unfold tP;rw[getD_eq_getElem?_getD,getElem?_append_right (by simp;omega)];simp[hk,Nat.min_eq_left (Nat.le_of_lt hk)]
theorem Q5{kept gone:Nat}{l:List Pr}{k:Nat}(hk:k<l.length):tP kept gone l (k+1)=(tP kept gone l k).set k (mj kept gone l[k]):=by
 unfold tP;have e:l.drop k=l[k]::l.drop (k+1):=drop_eq_getElem_cons hk;have e2:(l.take (k+1)).map (mj kept gone)=(l.take k).map (mj kept gone)++[mj kept gone l[k]]:=by
  rw[take_add_one,getElem?_eq_getElem hk,map_append];rfl
 have e3:((l.take k).map (mj kept gone)).length=k:=by simp;omega
 rw[e2,e,set_append_right _ _ (by omega),e3,Nat.sub_self,set_cons_zero,append_assoc];rfl
section
variable {w:World} {v:Value} {l:List Pr}
theorem wT(h:w.ownsRow 0 182 3 v l.length (af l))(hl:l.length<=100000)(kept gone:Nat):
  Calls prog 266 #[v,.int .i64 kept,.int .i64 gone] w λe w'=>e=.returned (.tuple #[])/\w'.ownsRow 0 182 3 v l.length (af (l.map (mj kept gone)))/\ar v.ownBlock.toList w v.ownBlock.toList w':=by
 obtain⟨va,vc,hv,PO,UO⟩:=am h;subst hv;have uX:Hid (w.ownsRow 0 182 3 (.slice va l.length vc) l.length (af (tP kept gone l 0))/\ar (Value.slice va l.length vc).ownBlock.toList w (Value.slice va l.length vc).ownBlock.toList w):=ab ⟨by simpa[tP] using h,ar.refl _ _⟩;clear h;go_enter func266,ntmps266;go_wp2_with fail
 go_loopw [6] (λi wx=>∃(k:Nat),k<=l.length/\i=.int .i64 k/\Hid (wx.ownsRow 0 182 3 (.slice va l.length vc) l.length (af (tP kept gone l k))/\ar (Value.slice va l.length vc).ownBlock.toList w (Value.slice va l.length vc).ownBlock.toList wx)) (λi _=>l.length-(intOf i).toNat)
 case atStart=>exact⟨0,zq5 _,rfl,uX⟩
 case round =>
  clear uX;obtain⟨k,hk,rfl,hI⟩:=hrel;by_cases au:k<l.length
  .have hd:decide ((k:Int)<(l.length:Int))=true:=(by simp;omega);obtain⟨g,cap,dE,-,-,-⟩:=b8 (uh hI).1 (by omega);simp only[Value.slice.injEq,true_and]at dE;obtain⟨rfl,rfl⟩:=dE;obtain⟨p,hp⟩:∃p,p=l[k]:=⟨_,rfl⟩;have hK:=VP (kept:=kept) (gone:=gone) au;have hr:=(uh hI).1;have dN:=VQ kept gone l k;have uq:wr.ownsRow 0 182 3 (.slice (some ⟨g,0,none⟩) (tP kept gone l k).length vc) (tP kept gone l k).length (af (tP kept gone l k)):=(by rw[dN];exact hr);obtain⟨-,x1,x2⟩:=aB uq (i:=k) (by omega);rw[hK,<-hp]at x1 x2;have f1:=hr.frozenAt (k*3+1);have f2:=hr.frozenAt (k*3+2);have i1:(0:Int)<=(k:Int):=(by omega);have i2:(k:Int)<(l.length:Int):=(by omega);have dy:∀c:Nat,(wr.setCell ⟨g,k*3+1,none⟩ (.int .i64 (c:Int))).ownsRow 0 182 3 (.slice (some ⟨g,0,none⟩) l.length vc) l.length (af ((tP kept gone l k).set k ⟨p.k,c,p.r⟩)):=λc=>by
    have:=(hr.stored (k*3+1) (.int .i64 (c:Int))).1;rw[jl (by omega),hK,<-hp]at this;exact this
   have gS:∀(w2:World) (c d:Nat),w2.ownsRow 0 182 3 (.slice (some ⟨g,0,none⟩) l.length vc) l.length (af ((tP kept gone l k).set k ⟨p.k,c,p.r⟩))->(w2.setCell ⟨g,k*3+2,none⟩ (.int .i64 (d:Int))).ownsRow 0 182 3 (.slice (some ⟨g,0,none⟩) l.length vc) l.length (af ((tP kept gone l k).set k ⟨p.k,c,d⟩)):=λw2 c d hw=>by
    have:=(hw.stored (k*3+2) (.int .i64 (d:Int))).1;rw[fx (by simp;omega)]at this;simpa[dN,au] using this
   have tN:wr.ownsRow 0 182 3 (.slice (some ⟨g,0,none⟩) l.length vc) l.length (af ((tP kept gone l k).set k ⟨p.k,p.l,p.r⟩)):=by
    have e:(tP kept gone l k).set k ⟨p.k,p.l,p.r⟩=tP kept gone l k:=by
     have:(⟨p.k,p.l,p.r⟩:Pr)=(tP kept gone l k)[k]'(by omega):=by
      have h2:=jZ (l:=tP kept gone l k) (k:=k) (by omega);rw[<-h2,hK,<-hp]
     rw[this,set_getElem_self]
    rw[e];exact hr
   have sP:=ab tN;have cH:=ab dy;have dg:=ab gS;have dh:=ab (uh hI).2;have qn:Hid (tP kept gone l (k+1)=(tP kept gone l k).set k ⟨p.k,cM kept gone p.l,cM kept gone p.r⟩):=ab (by rw[Q5 au,<-hp];rfl);clear hr uq hK dN hp tN dy gS hI;have y2:∀c:Nat,(wr.setCell ⟨g,k*3+1,none⟩ (.int .i64 (c:Int))).cell? ⟨g,k*3+2,none⟩=some (.int .i64 (p.r:Int)):=λc=>by
    rw[cell?_setCell_other _ _ _ _ (by simp)];exact x2
   have z2:∀c:Nat,(wr.setCell ⟨g,k*3+1,none⟩ (.int .i64 (c:Int))).frozen? ⟨g,k*3+2,none⟩=false:=λc=>(uh cH c).frozenAt (k*3+2);by_cases e1:p.l=gone
   .by_cases e2:p.r=gone
    .have b1:((p.l:Int)==(gone:Int))=true:=(by simp[e1]);have b2:((p.r:Int)==(gone:Int))=true:=(by simp[e2]);have HE:Hid (cM kept gone p.l=kept/\cM kept gone p.r=kept):=ab ⟨if_pos e1,if_pos e2⟩;clear e1 e2;go_wp2_with fail
     go_roundw
     case rel=>exact⟨k+1,by omega,by go_num,ab ⟨by rw[uh qn,(uh HE).1,(uh HE).2];exact uh dg _ kept kept (uh cH kept),((uh dh).setCell (p:=⟨g,k*3+1,none⟩) (zq0 (by simp[Value.ownBlock])) _).setCell (p:=⟨g,k*3+2,none⟩) (zq0 (by simp[Value.ownBlock])) _⟩⟩
     case measure=>simp[intOf];omega
    .have b1:((p.l:Int)==(gone:Int))=true:=(by simp[e1]);have b2:((p.r:Int)==(gone:Int))=false:=(by simp;omega);have HE:Hid (cM kept gone p.l=kept/\cM kept gone p.r=p.r):=ab ⟨if_pos e1,if_neg e2⟩;clear e1 e2;go_wp2_with fail
     go_roundw
     case rel=>exact⟨k+1,by omega,by go_num,ab ⟨by rw[uh qn,(uh HE).1,(uh HE).2];exact uh cH kept,(uh dh).setCell (p:=⟨g,k*3+1,none⟩) (zq0 (by simp[Value.ownBlock])) _⟩⟩
     case measure=>simp[intOf];omega
   .by_cases e2:p.r=gone
    .have b1:((p.l:Int)==(gone:Int))=false:=(by simp;omega);have b2:((p.r:Int)==(gone:Int))=true:=(by simp[e2]);have HE:Hid (cM kept gone p.l=p.l/\cM kept gone p.r=kept):=ab ⟨if_neg e1,if_pos e2⟩;clear e1 e2;go_wp2_with fail
     go_roundw
     case rel=>exact⟨k+1,by omega,by go_num,ab ⟨by rw[uh qn,(uh HE).1,(uh HE).2];exact uh dg _ p.l kept (uh sP),(uh dh).setCell (p:=⟨g,k*3+2,none⟩) (zq0 (by simp[Value.ownBlock])) _⟩⟩
     case measure=>simp[intOf];omega
    .have b1:((p.l:Int)==(gone:Int))=false:=(by simp;omega);have b2:((p.r:Int)==(gone:Int))=false:=(by simp;omega);have HE:Hid (cM kept gone p.l=p.l/\cM kept gone p.r=p.r):=ab ⟨if_neg e1,if_neg e2⟩;clear e1 e2;go_wp2_with fail
     go_roundw
     case rel=>exact⟨k+1,by omega,by go_num,ab ⟨by rw[uh qn,(uh HE).1,(uh HE).2];exact uh sP,uh dh⟩⟩
     case measure=>simp[intOf];omega
  .have hd:decide ((k:Int)<(l.length:Int))=false:=(by simp;omega);have HE:Hid (tP kept gone l k=l.map (mj kept gone)):=ab (by unfold tP;rw[take_of_length_le (by omega),drop_eq_nil_of_le (by omega),append_nil]);go_wp2_with fail
   go_end0
   exact⟨rfl,by rw[<-uh HE];exact(uh hI).1,(uh hI).2⟩
end
def CM(kept gone:Nat)(c:List Nat)(k:Nat):List Nat:=(c.take k).map (cM kept gone)++c.drop k
theorem Nt{kept gone:Nat}{c:List Nat}{k:Nat}(hk:k<c.length):CM kept gone c (k+1)=(CM kept gone c k).set k (cM kept gone (c.getD k 0))/\(CM kept gone c k).getD k 0=c.getD k 0:=by
 unfold CM;have e:c.drop k=c[k]::c.drop (k+1):=drop_eq_getElem_cons hk;have e0:c.getD k 0=c[k]:=by simp[hk]
 have e2:(c.take (k+1)).map (cM kept gone)=(c.take k).map (cM kept gone)++[cM kept gone c[k]]:=by
  rw[take_add_one,getElem?_eq_getElem hk,map_append];rfl
 have e3:((c.take k).map (cM kept gone)).length=k:=by simp;omega
 refine⟨?_,?_⟩
 .rw[e2,e,set_append_right _ _ (by omega),e3,Nat.sub_self,set_cons_zero,append_assoc,e0];rfl
 .rw[getD_eq_getElem?_getD,getElem?_append_right (by omega),e3,Nat.sub_self,e,e0];rfl
theorem TC(kept gone:Nat)(c:List Nat)(k:Nat):(CM kept gone c k).length=c.length:=by simp[CM];omega
theorem Rg{l:List Nat}{k c:Nat}(hk:k<l.length)(h:l.getD k 0=c):l.set k c=l:=by
 have:c=l[k]:=by rw[<-h];simp[hk]
 rw[this,set_getElem_self]
section
variable {w w':World} {A:Nat} {f:CF} {av ov:Value}
theorem Fm.newRow(h:Fm w A f av ov){ow':List Pr}(hl:ow'.length=f.ow.length)(hr:w'.ownsRow 0 182 3 ov f.ow.length (af ow'))(hs:ar ov.ownBlock.toList w ov.ownBlock.toList w'):Fm w' A { f with ow:=ow' } av ov/\ar (aG A av ov) w (aG A av ov) w':=by
 obtain⟨n1,n2,n3⟩:=h.nds;refine⟨⟨⟨h.is.ob.of_eq (hs.block A (h.lt A (by simp[aG])) (by simpa using n2)),ae h.is.ap (λk hk=>hs.block k (h.lt k (by simp[aG,hk])) (by simpa using n3 k hk)),?_⟩,h.nd,h.c5⟩,hs.wide (λk hk=>by simp only[aG,mem_cons,mem_append];exact zq1 (zq1 hk))⟩;show w'.ownsRow 0 _ 3 ov ow'.length (af ow');rw[hl];exact hr
theorem Fm.newRowA(h:Fm w A f av ov){ap':List Pr}(hl:ap'.length=f.ap.length)(hr:w'.ownsRow 0 182 3 av f.ap.length (af ap'))(hs:ar av.ownBlock.toList w av.ownBlock.toList w'):Fm w' A { f with ap:=ap' } av ov/\ar (aG A av ov) w (aG A av ov) w':=by
 obtain⟨n1,n2,n3⟩:=h.nds;refine⟨⟨⟨h.is.ob.of_eq (hs.block A (h.lt A (by simp[aG])) (by simpa using n1)),?_,ae h.is.ow (λk hk=>hs.block k (h.lt k (by simp[aG,hk])) (by simpa using λe=>n3 k e hk))⟩,h.nd,h.c5⟩,hs.wide (λk hk=>by simp only[aG,mem_cons,mem_append];exact zq1 (zq0 hk))⟩;show w'.ownsRow 0 _ 3 av ap'.length (af ap');rw[hl];exact hr
theorem y9(h:Fm w A f av ov)(ha:f.ap.length<=100000)(ho:f.ow.length<=100000)(kept gone:Nat):Calls prog 260 #[.pointer (some ⟨A,0,none⟩),.int .i64 kept,.int .i64 gone] w λe w'=>e=.returned (.tuple #[])/\Fm w' A (mL f kept gone) av ov/\ar (aG A av ov) w (aG A av ov) w':=by
 have H5:=ab h.c5;have cF:Hid (Fm w A { f with cl:=CM kept gone f.cl 0 } av ov/\ar (aG A av ov) w (aG A av ov) w):=ab ⟨by simpa[CM] using h,ar.refl _ _⟩;clear h;go_enter func260,ntmps260;go_wp2_with fail
 go_loopw [6] (λi wx=>∃(k:Nat),k<=5/\i=.int .i64 k/\Hid (Fm wx A { f with cl:=CM kept gone f.cl k } av ov/\ar (aG A av ov) w (aG A av ov) wx)) (λi _=>5-(intOf i).toNat)
 case atStart=>exact⟨0,zq5 _,rfl,cF⟩
 case round =>
  clear cF;obtain⟨k,hk,rfl,hI⟩:=hrel;by_cases au:k<5
  .have hd:decide ((k:Int)<(5:Int))=true:=(by simp;omega);have aP:=Nt (kept:=kept) (gone:=gone) (c:=f.cl) (k:=k) (by have:=uh H5;omega);obtain⟨c,hc⟩:∃c,c=f.cl.getD k 0:=⟨_,rfl⟩;have x:wr.cell? ⟨A,k,none⟩=some (.int .i64 (c:Int)):=by
    have:=(uh hI).1.is.cls au;unfold gZ at this;rw[this];show some (Value.int .i64 (((CM kept gone f.cl k).getD k 0:Nat):Int))=_;rw[aP.2,<-hc]
   have fz:wr.frozen? ⟨A,k,none⟩=false:=ownsRow.frozenAt (uh hI).1.is.ob k;have dh:Hid (CM kept gone f.cl (k+1)=(CM kept gone f.cl k).set k (cM kept gone c)):=ab (by rw[aP.1,<-hc]);have i1:(0:Int)<=(k:Int):=(by omega);have i2:(k:Int)<(5:Int):=(by omega);have HG:Hid ((CM kept gone f.cl k).getD k 0=c):=ab (by rw[aP.2,<-hc]);clear aP hc;by_cases e1:c=gone
   .have b1:((c:Int)==(gone:Int))=true:=(by simp[e1]);have HE:Hid (cM kept gone c=kept):=ab (if_pos e1);clear e1;go_wp2_with fail
    go_roundw
    case rel=>exact⟨k+1,by omega,by go_num,ab ⟨by rw[uh dh,uh HE];exact(uh hI).1.setCl k kept au,(uh hI).2.setCell (p:=⟨A,k,none⟩) (zq0 (by simp[aG])) _⟩⟩
    case measure=>simp[intOf];omega
   .have b1:((c:Int)==(gone:Int))=false:=(by simp;omega);have HE:Hid (CM kept gone f.cl (k+1)=CM kept gone f.cl k):=ab (by
     rw[uh dh,show cM kept gone c=c from if_neg e1];exact Rg (by rw[TC];have:=uh H5;omega) (uh HG))
    clear e1;go_wp2_with fail
    go_roundw
    case rel=>exact⟨k+1,by omega,by go_num,ab ⟨by rw[uh HE];exact(uh hI).1,(uh hI).2⟩⟩
    case measure=>simp[intOf];omega
  .have hd:decide ((k:Int)<(5:Int))=false:=(by simp;omega);have dT:CM kept gone f.cl k=f.cl.map (cM kept gone):=by
    have:=uh H5;unfold CM;rw[take_of_length_le (by omega),drop_eq_nil_of_le (by omega),append_nil]
   have hF:=(uh hI).1;rw[dT]at hF;have dh:=ab (uh hI).2;have c5:=hF.is.c5;have HRA:=ab (wT hF.is.ap ha kept gone);have HF:=ab hF;clear hF dT hI;obtain⟨aa,ac,ko,-,-⟩:=am (uh HF).is.ap;obtain⟨oa,oc,gw,-,-⟩:=am (uh HF).is.ow;subst ko;subst gw;go_wp2_with fail
   refine(uh HRA).mono ?_;rintro e w1 ⟨rfl,ur,dy⟩;have gf:=(uh HF).newRowA (ap':=f.ap.map (mj kept gone)) (by simp) ur dy;have c6:=gf.1.is.c6;have HRO:=ab (wT gf.1.is.ow ho kept gone);have R6:=ab gf;clear ur dy gf HRA c5;go_wp2_with fail
   refine(uh HRO).mono ?_;rintro e w2 ⟨rfl,j9,gS⟩;have pp:=(uh R6).1.newRow (ow':=f.ow.map (mj kept gone)) (by simp) j9 gS;have xZ:=ab pp;clear j9 gS pp HRO c6;go_wp2_with fail
   go_end0
   exact⟨rfl,(uh xZ).1,((uh dh).trans (uh R6).2).trans (uh xZ).2⟩
end
def ry(l:List Pr)(i k:Nat):List Pr:=((range k).filter (λj=>j != i)).map (λj=>l.getD j ay)
def iQ(l:List Pr)(i:Nat):List Pr:=ry l i l.length
theorem xy(l:List Pr)(i k:Nat):ry l i (k+1)=ry l i k++(if k=i then [] else [l.getD k ay]):=by
 unfold ry;rw[range_succ,filter_append,map_append];congr 1;by_cases h:k=i <;> simp[h]
theorem We(l:List Pr)(i k:Nat):(ry l i k).length<=k:=by
 unfold ry;rw[length_map];exact zq3 (length_filter_le _ _) (by simp)
section
variable {w:World} {A:Nat} {f:CF} {av ov:Value}
theorem zc(h:Fm w A f av ov)(ho:f.ow.length<=100000)(i:Nat):Calls prog 251 #[.pointer (some ⟨A,0,none⟩),.int .i64 i] w λe w'=>e=.returned (.tuple #[])/\∃ov',Fm w' A { f with ow:=iQ f.ow i } av ov'/\ar (aG A av ov) w (aG A av ov') w':=by
 obtain⟨i0,lr,gX,gy,gK⟩:=info_parts infoPair;obtain⟨oa,oc,gw,-,-⟩:=am h.is.ow;subst gw;have H:=ab h;have uX:Hid ((w.alloc (.cells #[] 182)).ownsRow w.heap.size 182 3 (.slice (some ⟨w.heap.size,0,none⟩) 0 0) 0 []/\Below w.heap.size w (w.alloc (.cells #[] 182))):=ab ⟨ownsRow_lit (base:=w.heap.size) (e:=182) (size:=3) w #[] 0 (zq4 _) (by simp[maxLen]) rfl,ah w _⟩;clear h;go_enter func251,ntmps251;go_wp2_with fail
 go_loopw [4,5] (λrv j wx=>∃(k:Nat),k<=f.ow.length/\j=.int .i64 k/\Hid (wx.ownsRow w.heap.size 182 3 rv (ry f.ow i k).length (af (ry f.ow i k))/\Below w.heap.size w wx)) (λ_ j _=>f.ow.length-(intOf j).toNat)
 case atStart=>exact⟨0,zq5 _,rfl,uX⟩
 case round =>
  clear uX;obtain⟨k,hk,rfl,hI⟩:=hrel;have hF:=(uh H).below (uh hI).2;have c6:=hF.is.c6;obtain⟨ra,rc,Mu,-,-⟩:=am (uh hI).1;subst Mu;by_cases au:k<f.ow.length
  .have hd:decide ((k:Int)<(f.ow.length:Int))=true:=(by simp;omega);by_cases hki:k=i
   .have b1:((k:Int) != (i:Int))=false:=(by simp[hki]);have HE:Hid (ry f.ow i (k+1)=ry f.ow i k):=ab (by rw[xy,if_pos hki,append_nil]);clear hki hF;go_wp2_with fail
    go_roundw
    case rel=>exact⟨k+1,by omega,by go_num,ab (by rw[uh HE];exact uh hI)⟩
    case measure=>simp[intOf];omega
   .have b1:((k:Int) != (i:Int))=true:=(by rw[bne_iff_ne];omega);obtain⟨p,hp⟩:∃p,p=f.ow.getD k ay:=⟨_,rfl⟩;have HE:Hid (ry f.ow i (k+1)=ry f.ow i k++[p]):=ab (by rw[xy,if_neg hki,<-hp]);obtain⟨g,cap,dE,-,-⟩:=aE hF.is.ow au;simp only[Value.slice.injEq,true_and]at dE;obtain⟨rfl,rfl⟩:=dE;obtain⟨x0,x1,x2⟩:=aB hF.is.ow au;rw[<-hp]at x0 x1 x2;have kh:=ab (uh hI).1;have dN:=We f.ow i k;have O4:=(uh hI).2.size;have i1:(0:Int)<=(k:Int):=(by omega);have i2:(k:Int)<(f.ow.length:Int):=(by omega);obtain⟨L,hL⟩:∃L,L=ry f.ow i k:=⟨_,rfl⟩;rw[<-hL]at HE kh dN hI ⊢;clear hki hF hp hL;go_wp2_with (at_builtin;refine aS _ rfl (.tmp 19) (.tmp 27) 177 rfl w.heap.size 182 i0 _ 3 24 underlying177 lr gX gy gK rfl (by decide) _ L.length (af L) rfl ((uh kh).alloc _) ⟨_,0,none⟩ 1 [.int .i64 (p.k:Int),.int .i64 (p.l:Int),.int .i64 (p.r:Int)] rfl rfl (aN _ _ (by simp) [.int .i64 (p.k:Int),.int .i64 (p.l:Int),.int .i64 (p.r:Int)] _) (rj p) (by omega) (by omega) (by simp;omega) ?_)
    intro g4 cap4 w4 iJ eu jK;have HN:Hid (w4.ownsRow w.heap.size 182 3 (.slice (some ⟨g4,0,none⟩) (L.length+1) cap4) (ry f.ow i (k+1)).length (af (ry f.ow i (k+1)))/\Below w.heap.size w w4):=ab (by
     rw[uh HE,length_append,length_singleton,eZ];refine⟨iJ,?_⟩;have hb:=(uh hI).2.alloc O4 (.cells #[.int .i64 (p.k:Int),.int .i64 (p.l:Int),.int .i64 (p.r:Int)] 182);exact hb.grown eu hb.size (λk hk=>((uh kh).lt k hk).1))
    clear iJ eu jK;go_wp2_with fail
    go_roundw
    case rel=>exact⟨k+1,by omega,by go_num,HN⟩
    case measure=>simp[intOf];omega
  .have hd:decide ((k:Int)<(f.ow.length:Int))=false:=(by simp;omega);have kE:k=f.ow.length:=(by omega);have hs:ar (Value.slice oa f.ow.length oc).ownBlock.toList w (Value.slice ra (ry f.ow i k).length rc).ownBlock.toList wr:=(ar.ofBw (F:=(Value.slice oa f.ow.length oc).ownBlock.toList) (uh hI).2).foots (λj hj=>zq1 ((uh hI).1.lt j (by simpa using hj)).1);have hN:=(uh H).newOv (ow':=ry f.ow i k) hs (v':=.slice ra (ry f.ow i k).length rc) (λj hj=>by simpa using hj) (dY (uh hI).1 (zq5 _));have HN:Hid (Fm (wr.setCell ⟨A,6,none⟩ (.slice ra (ry f.ow i k).length rc)) A { f with ow:=iQ f.ow i } av (.slice ra (ry f.ow i k).length rc)/\ar (aG A av (.slice oa f.ow.length oc)) w (aG A av (.slice ra (ry f.ow i k).length rc)) (wr.setCell ⟨A,6,none⟩ (.slice ra (ry f.ow i k).length rc))):=ab (by
    have e:iQ f.ow i=ry f.ow i k:=(by unfold iQ;rw[kE]);rw[e];exact hN)
   have f6:=ownsRow.frozenAt hF.is.ob 6;clear hs hN kE hF;go_wp2_with fail
   go_end0
   exact⟨rfl,_,(uh HN).1,(uh HN).2⟩
end
def Ce(l:List Pr)(c:Nat):Nat:=l.countP (λp=>decide (p.r=c))
theorem N1{l:List Pr}{k:Nat}(hk:k<l.length)(c:Nat):Ce (l.take (k+1)) c=Ce (l.take k) c+(if (l.getD k ay).r=c then 1 else 0):=by
 have e:l.getD k ay=l[k]:=jZ hk;unfold Ce;rw[take_add_one,getElem?_eq_getElem hk,countP_append,e];by_cases h:l[k].r=c <;> simp[h]
theorem N0(l:List Pr)(c:Nat):Ce l c<=l.length:=countP_le_length
section
variable {w:World} {A:Nat} {f:CF} {av ov:Value}
theorem N3(h:eP w A f av ov)(_ho:f.ow.length<=100000)(c:Nat):Calls prog 262 #[.pointer (some ⟨A,0,none⟩),.int .i64 c] w λe w'=>e=.returned (.int .i64 (Ce f.ow c:Nat))/\Below w.heap.size w w':=by
 obtain⟨oa,oc,gw,hoc,hom⟩:=am h.ow;subst gw;have c6:=h.c6;have H:=ab h;have J0:=ab (Below.refl w.heap.size w);clear h;go_enter func262,ntmps262;go_wp2_with fail
 go_loopw [5,13] (λn i wx=>∃(k:Nat),k<=f.ow.length/\n=.int .i64 (Ce (f.ow.take k) c:Nat)/\i=.int .i64 k/\Hid (Below w.heap.size w wx)) (λ_ i _=>f.ow.length-(intOf i).toNat)
 case atStart=>exact⟨0,zq5 _,rfl,rfl,J0⟩
 case round =>
  clear J0;obtain⟨k,hk,rfl,rfl,hb⟩:=hrel;have m8:=N0 (f.ow.take k) c;have hlk:(f.ow.take k).length<=k:=by simp;omega
  by_cases au:k<f.ow.length
  .have hd:decide ((k:Int)<(f.ow.length:Int))=true:=(by simp;omega);have hF:=(uh H).below (uh hb);obtain⟨g,cap,dE,-,-⟩:=aE hF.ow au;simp only[Value.slice.injEq,true_and]at dE;obtain⟨rfl,rfl⟩:=dE;obtain⟨x0,x1,x2⟩:=aB hF.ow au;have aP:=N1 au c;obtain⟨p,hp⟩:∃p,p=f.ow.getD k ay:=⟨_,rfl⟩;rw[<-hp]at x0 x1 x2 aP;obtain⟨n,hn⟩:∃n,n=Ce (f.ow.take k) c:=⟨_,rfl⟩;rw[<-hn]at aP m8 ⊢;have f8:Hid (Below w.heap.size w (wr.alloc (.cells #[.int .i64 (p.k:Int),.int .i64 (p.l:Int),.int .i64 (p.r:Int)] 182))):=ab ((uh hb).alloc (uh hb).size _);have i1:(0:Int)<=(k:Int):=(by omega);have i2:(k:Int)<(f.ow.length:Int):=(by omega);clear hF hp hn;by_cases e1:p.r=c
   .have b1:((p.r:Int)==(c:Int))=true:=(by simp[e1]);rw[if_pos e1]at aP;have dh:=ab aP;clear e1 aP;go_wp2_with fail
    go_roundw
    case rel=>exact⟨k+1,by omega,by rw[uh dh];go_num,by go_num,f8⟩
    case measure=>simp[intOf];omega
   .have b1:((p.r:Int)==(c:Int))=false:=(by simp;omega);rw[if_neg e1]at aP;have dh:=ab aP;clear e1 aP;go_wp2_with fail
    go_roundw
    case rel=>exact⟨k+1,by omega,by rw[uh dh];rfl,by go_num,f8⟩
    case measure=>simp[intOf];omega
  .have hd:decide ((k:Int)<(f.ow.length:Int))=false:=(by simp;omega);have HE:Hid (Ce (f.ow.take k) c=Ce f.ow c):=ab (by rw[take_of_length_le (by omega)]);go_wp2_with fail
   go_ret;exact⟨bi (by rw[uh HE]),uh hb⟩
theorem AO(a b c d e:Value)(w:World):(Instr.index 176 (.agg #[a,b,c,d,e]) (.int .i64 0)).run prog w=.ok a w:=by kernel_rfl
theorem AP(a b c d e:Value)(w:World):(Instr.index 176 (.agg #[a,b,c,d,e]) (.int .i64 1)).run prog w=.ok b w:=by kernel_rfl
theorem AQ(a b c d e:Value)(w:World):(Instr.index 176 (.agg #[a,b,c,d,e]) (.int .i64 2)).run prog w=.ok c w:=by kernel_rfl
theorem AR(a b c d e:Value)(w:World):(Instr.index 176 (.agg #[a,b,c,d,e]) (.int .i64 3)).run prog w=.ok d w:=by kernel_rfl
theorem AS(a b c d e:Value)(w:World):(Instr.index 176 (.agg #[a,b,c,d,e]) (.int .i64 4)).run prog w=.ok e w:=by kernel_rfl
def SO(f:CF)(c:Nat):Bool:=decide (f.cl.getD 0 0=c)||decide (f.cl.getD 1 0=c)||decide (f.cl.getD 2 0=c)||decide (f.cl.getD 3 0=c)||decide (f.cl.getD 4 0=c)
theorem Lr(h:eP w A f av ov)(c:Nat):Calls prog 261 #[.pointer (some ⟨A,0,none⟩),.int .i64 c] w λe w'=>e=.returned (.bool (SO f c))/\w'=w:=by
 have x0:=h.cls (i:=0) (by omega);have x1:=h.cls (i:=1) (by omega);have x2:=h.cls (i:=2) (by omega);have x3:=h.cls (i:=3) (by omega);have x4:=h.cls (i:=4) (by omega);unfold gZ at x0 x1 x2 x3 x4;unfold SO;generalize f.cl.getD 0 0=y0 at *;generalize f.cl.getD 1 0=y1 at *;generalize f.cl.getD 2 0=y2 at *;generalize f.cl.getD 3 0=y3 at *;generalize f.cl.getD 4 0=y4 at *;clear h;have j0:=AO (.int .i64 (y0:Int)) (.int .i64 (y1:Int)) (.int .i64 (y2:Int)) (.int .i64 (y3:Int)) (.int .i64 (y4:Int));have j1:=AP (.int .i64 (y0:Int)) (.int .i64 (y1:Int)) (.int .i64 (y2:Int)) (.int .i64 (y3:Int)) (.int .i64 (y4:Int));have j2:=AQ (.int .i64 (y0:Int)) (.int .i64 (y1:Int)) (.int .i64 (y2:Int)) (.int .i64 (y3:Int)) (.int .i64 (y4:Int));have j3:=AR (.int .i64 (y0:Int)) (.int .i64 (y1:Int)) (.int .i64 (y2:Int)) (.int .i64 (y3:Int)) (.int .i64 (y4:Int));have j4:=AS (.int .i64 (y0:Int)) (.int .i64 (y1:Int)) (.int .i64 (y2:Int)) (.int .i64 (y3:Int)) (.int .i64 (y4:Int));obtain⟨b,hb⟩:∃b,b=(decide (y0=c)||decide (y1=c)||decide (y2=c)||decide (y3=c)||decide (y4=c)):=⟨_,rfl⟩;rw[<-hb];have HB:=ab hb;clear hb;go_enter func261,ntmps261;go_wp2_with fail
 go_loop [11] (λi=>∃(k:Nat),k<=5/\i=.int .i64 k/\Hid ((0<k->y0≠c)/\(1<k->y1≠c)/\(2<k->y2≠c)/\(3<k->y3≠c)/\(4<k->y4≠c))) (λi=>5-(intOf i).toNat)
 case atStart=>exact⟨0,zq5 _,rfl,ab ⟨by omega,by omega,by omega,by omega,by omega⟩⟩
 case round =>
  obtain⟨k,hk,rfl,hn⟩:=hrel;have vP:k=0\/k=1\/k=2\/k=3\/k=4\/k=5:=by omega
  rcases vP with rfl|rfl|rfl|rfl|rfl|rfl
  .by_cases e1:y0=c
   .have b1:((y0:Int)==(c:Int))=true:=(by simp[e1]);have HE:Hid (b=true):=ab (by rw[uh HB];simp[e1]);clear e1;go_wp2_with fail
    go_ret;exact⟨aC (uh HE).symm,rfl⟩
   .have b1:((y0:Int)==(c:Int))=false:=(by simp;omega);have HN:Hid ((0<1->y0≠c)/\(1<1->y1≠c)/\(2<1->y2≠c)/\(3<1->y3≠c)/\(4<1->y4≠c)):=ab (by
     obtain⟨h0,h1,h2,h3,h4⟩:=uh hn;refine⟨?_,?_,?_,?_,?_⟩ <;> intro hh <;> first|exact e1|omega|(apply h0;omega)|(apply h1;omega)|(apply h2;omega)|(apply h3;omega)|(apply h4;omega))
    clear e1;go_wp2_with fail
    go_round
    case rel=>exact⟨1,by omega,by go_num,HN⟩
    case measure=>simp[intOf]
  .by_cases e1:y1=c
   .have b1:((y1:Int)==(c:Int))=true:=(by simp[e1]);have HE:Hid (b=true):=ab (by rw[uh HB];simp[e1]);clear e1;go_wp2_with fail
    go_ret;exact⟨aC (uh HE).symm,rfl⟩
   .have b1:((y1:Int)==(c:Int))=false:=(by simp;omega);have HN:Hid ((0<2->y0≠c)/\(1<2->y1≠c)/\(2<2->y2≠c)/\(3<2->y3≠c)/\(4<2->y4≠c)):=ab (by
     obtain⟨h0,h1,h2,h3,h4⟩:=uh hn;refine⟨?_,?_,?_,?_,?_⟩ <;> intro hh <;> first|exact e1|omega|(apply h0;omega)|(apply h1;omega)|(apply h2;omega)|(apply h3;omega)|(apply h4;omega))
    clear e1;go_wp2_with fail
    go_round
    case rel=>exact⟨2,by omega,by go_num,HN⟩
    case measure=>simp[intOf]
  .by_cases e1:y2=c
   .have b1:((y2:Int)==(c:Int))=true:=(by simp[e1]);have HE:Hid (b=true):=ab (by rw[uh HB];simp[e1]);clear e1;go_wp2_with fail
    go_ret;exact⟨aC (uh HE).symm,rfl⟩
   .have b1:((y2:Int)==(c:Int))=false:=(by simp;omega);have HN:Hid ((0<3->y0≠c)/\(1<3->y1≠c)/\(2<3->y2≠c)/\(3<3->y3≠c)/\(4<3->y4≠c)):=ab (by
     obtain⟨h0,h1,h2,h3,h4⟩:=uh hn;refine⟨?_,?_,?_,?_,?_⟩ <;> intro hh <;> first|exact e1|omega|(apply h0;omega)|(apply h1;omega)|(apply h2;omega)|(apply h3;omega)|(apply h4;omega))
    clear e1;go_wp2_with fail
    go_round
    case rel=>exact⟨3,by omega,by go_num,HN⟩
    case measure=>simp[intOf]
  .by_cases e1:y3=c
   .have b1:((y3:Int)==(c:Int))=true:=(by simp[e1]);have HE:Hid (b=true):=ab (by rw[uh HB];simp[e1]);clear e1;go_wp2_with fail
    go_ret;exact⟨aC (uh HE).symm,rfl⟩
   .have b1:((y3:Int)==(c:Int))=false:=(by simp;omega);have HN:Hid ((0<4->y0≠c)/\(1<4->y1≠c)/\(2<4->y2≠c)/\(3<4->y3≠c)/\(4<4->y4≠c)):=ab (by
     obtain⟨h0,h1,h2,h3,h4⟩:=uh hn;refine⟨?_,?_,?_,?_,?_⟩ <;> intro hh <;> first|exact e1|omega|(apply h0;omega)|(apply h1;omega)|(apply h2;omega)|(apply h3;omega)|(apply h4;omega))
    clear e1;go_wp2_with fail
    go_round
    case rel=>exact⟨4,by omega,by go_num,HN⟩
    case measure=>simp[intOf]
  .by_cases e1:y4=c
   .have b1:((y4:Int)==(c:Int))=true:=(by simp[e1]);have HE:Hid (b=true):=ab (by rw[uh HB];simp[e1]);clear e1;go_wp2_with fail
    go_ret;exact⟨aC (uh HE).symm,rfl⟩
   .have b1:((y4:Int)==(c:Int))=false:=(by simp;omega);have HN:Hid ((0<5->y0≠c)/\(1<5->y1≠c)/\(2<5->y2≠c)/\(3<5->y3≠c)/\(4<5->y4≠c)):=ab (by
     obtain⟨h0,h1,h2,h3,h4⟩:=uh hn;refine⟨?_,?_,?_,?_,?_⟩ <;> intro hh <;> first|exact e1|omega|(apply h0;omega)|(apply h1;omega)|(apply h2;omega)|(apply h3;omega)|(apply h4;omega))
    clear e1;go_wp2_with fail
    go_round
    case rel=>exact⟨5,by omega,by go_num,HN⟩
    case measure=>simp[intOf]
  .have HE:Hid (b=false):=ab (by
    obtain⟨h0,h1,h2,h3,h4⟩:=uh hn;rw[uh HB];simp[h0,h1,h2,h3,h4])
   go_wp2_with fail
   go_ret;exact⟨aC (uh HE).symm,rfl⟩
end
