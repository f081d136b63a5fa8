import Derived.Test.YtciihepbeacppaaGreatM08
set_option maxRecDepth 100000
set_option maxHeartbeats 0
namespace Go.Proofs.YtciihepbeacppaaGreat
open Tryz Go.RowKit List World Below
set_option linter.unusedVariables false
def cR(l:List Bool):List Value:=l.map Value.bool
theorem eG{l:List Bool}{j:Nat}(h:j<l.length):(cR l)[j]?=some (.bool (l.getD j false)):=by simp[cR,h]
theorem kt(l:List Bool)(j:Nat)(b:Bool):(cR l).set j (.bool b)=cR (l.set j b):=by simp[cR,map_set]
def ew(bl:List Bool)(seen:List Nat):Prop:=bl.length=24/\∀c,c<24->(bl.getD c false=true↔c∈seen)
theorem ew.add{bl:List Bool}{seen:List Nat}(h:ew bl seen){c:Nat}(hc:c<24):ew (bl.set c true) (c::seen):=by
 refine⟨by simpa using h.1,λd hd=>?_⟩;rw[b8 _ _ _ _ _ (by rw[h.1];exact hc),mem_cons];by_cases e:c=d
 .rw[if_pos e];simp[e]
 .rw[if_neg e,h.2 d hd];exact⟨zq1,λh=>h.resolve_left (λh=>e h.symm)⟩
theorem KG{f:CF}{k:Nat}(hk:k<f.ap.length)(h:f.ap[k].l=f.ap[k].r):kz f=true:=by
 unfold kz;have:f.ap.any (λp=>p.l==p.r)=true:=any_eq_true.2 ⟨_,getElem_mem hk,by simpa using h⟩;rw[this];rfl
theorem CO{f:CF}(h:∀j,(hj:j<f.ap.length)->f.ap[j].l≠f.ap[j].r):kz f=vi [f.cl.getD 0 0] f.ow:=by
 unfold kz;have:f.ap.any (λp=>p.l==p.r)=false:=by
  rw[any_eq_false];intro p hp;obtain⟨j,hj,rfl⟩:=mem_iff_getElem.1 hp;simpa using h j hj
 rw[this];rfl
theorem G0{w:World}{A:Nat}{f:CF}{av ov:Value}(h:dT w A f av ov)(hR:Rm f)(h0:f.cl.getD 0 0<24):
  Calls prog 115 #[.pointer (some ⟨A,0,none⟩)] w λe w'=>e=.returned (.bool (kz f))/\Below w.heap.size w w':=by
 obtain⟨ao,cap,jK,hm',Jj,hc⟩:=dp h.ap;have hm:cap<=9223372036854775807:=by unfold maxLen at hm';omega
 have h5:=h.c5;rw[jK]at h5;have HC:=ab hc;have HF:=ab h;clear hc jK h hm';go_enter func115,ntmps115;go_wp2_with fail
 go_loopw [13] (λi wr=>∃k:Nat,k<=f.ap.length/\i=.int .i64 k/\Hid (∀j,(hj:j<f.ap.length)->j<k->f.ap[j].l≠f.ap[j].r)/\Hid (Below w.heap.size w wr)) (λi _=>f.ap.length-(intOf i).toNat)
 case atStart=>exact⟨0,zq5 _,rfl,λ_ _ h=>absurd h (by omega),ab (Below.refl _ _)⟩
 case round =>
  obtain⟨k,hk,rfl,jw,cn⟩:=hrel;by_cases ar:k<f.ap.length
  .obtain⟨g,qL,aw⟩:=uh HC (by intro h;rw[h]at ar;simp at ar);subst qL;obtain⟨Cc,uR,uS⟩:=aw k ar;have c0:=((uh cn).cell (block_lt_of_cell? w _ Cc)).trans Cc;have c1:=((uh cn).cell (block_lt_of_cell? w _ uR)).trans uR;have c2:=((uh cn).cell (block_lt_of_cell? w _ uS)).trans uS;clear aw Cc uR uS;obtain⟨p,hp⟩:∃p,p=f.ap[k]:=⟨_,rfl⟩;rw[<-hp]at c0 c1 c2;have HP:=ab hp;have OB:=ab ((uh cn).alloc (uh cn).size (.cells #[Value.int .i64 p.k,.int .i64 p.l,.int .i64 p.r] 182));obtain⟨-,n1,n2⟩:=Dy wr (Value.int .i64 p.k) (.int .i64 p.l) (.int .i64 p.r) 182;clear hp;by_cases rj:p.l=p.r
   .have he:((p.l:Int)==(p.r:Int))=true:=(by rw[bh];simpa using rj);have HE:Hid (kz f=true):=ab (KG ar (by rw[<-uh HP];exact rj));clear rj;go_wp2_with fail
    go_ret;exact⟨by rw[uh HE];rfl,uh OB⟩
   .have he:((p.l:Int)==(p.r:Int))=false:=(by rw[bh];simpa using rj);have HLR:=ab rj;clear rj;go_wp2_with fail
    go_roundw
    case rel =>
     refine⟨k+1,by omega,by go_num,ab (λj hj m9=>?_),OB⟩;by_cases e:j=k
     .subst e;rw[<-uh HP];exact uh HLR
     .exact jw.out j hj (by omega)
    case measure=>simp[intOf];omega
  .have hd:decide ((k:Int)<(f.ap.length:Int))=false:=(by simp;omega);have HE:Hid (kz f=vi [f.cl.getD 0 0] f.ow):=ab (CO (λj hj=>jw.out j hj (by omega)));have Qt:=(uh HF).of_eq (λk hk=>(uh cn).block k ((uh HF).lt k hk));have h0r:=(Qt.alloc (Obj.cells #[Value.bool false,Value.bool false,Value.bool false,Value.bool false,Value.bool false,Value.bool false,Value.bool false,Value.bool false,Value.bool false,Value.bool false,Value.bool false,Value.bool false,Value.bool false,Value.bool false,Value.bool false,Value.bool false,Value.bool false,Value.bool false,Value.bool false,Value.bool false,Value.bool false,Value.bool false,Value.bool false,Value.bool false] 240)).cls (i:=0) (by omega);unfold fX at h0r;obtain⟨c0,Jd⟩:∃c0,c0=f.cl.getD 0 0:=⟨_,rfl⟩;rw[<-Jd]at h0r h0 HE;have Qo:Ob (wr.alloc (Obj.cells #[Value.bool false,Value.bool false,Value.bool false,Value.bool false,Value.bool false,Value.bool false,Value.bool false,Value.bool false,Value.bool false,Value.bool false,Value.bool false,Value.bool false,Value.bool false,Value.bool false,Value.bool false,Value.bool false,Value.bool false,Value.bool false,Value.bool false,Value.bool false,Value.bool false,Value.bool false,Value.bool false,Value.bool false] 240)) 240 24 wr.heap.size (cR (replicate 24 false)):=by
    exact ownsRow_lit (base:=0) (e:=240) (size:=24) wr (cR (replicate 24 false)).toArray 1 (zq5 _) (by simp[maxLen]) rfl
   obtain⟨⟨u0,Do⟩,fW⟩:=Qo.some (j:=c0) h0;have K5:Ob (wr.alloc (Obj.cells ([Value.bool false,Value.bool false,Value.bool false,Value.bool false,Value.bool false,Value.bool false,Value.bool false,Value.bool false,Value.bool false,Value.bool false,Value.bool false,Value.bool false,Value.bool false,Value.bool false,Value.bool false,Value.bool false,Value.bool false,Value.bool false,Value.bool false,Value.bool false,Value.bool false,Value.bool false,Value.bool false,Value.bool false].set c0 (Value.bool true)).toArray 240)) 240 24 wr.heap.size (cR ((replicate 24 false).set c0 true)):=by
    have h1:=ownsRow_lit (base:=0) (e:=240) (size:=24) wr ([Value.bool false,Value.bool false,Value.bool false,Value.bool false,Value.bool false,Value.bool false,Value.bool false,Value.bool false,Value.bool false,Value.bool false,Value.bool false,Value.bool false,Value.bool false,Value.bool false,Value.bool false,Value.bool false,Value.bool false,Value.bool false,Value.bool false,Value.bool false,Value.bool false,Value.bool false,Value.bool false,Value.bool false].set c0 (Value.bool true)).toArray 1 (zq5 _) (by simp[maxLen]) (by simp);rw[<-kt];exact h1
   have WW:ew ((replicate 24 false).set c0 true) [c0]:=by
    refine ew.add (seen:=[]) ⟨by simp,λc hc=>?_⟩ h0;rw[getD_eq_getElem?_getD,getElem?_replicate,if_pos hc];simp
   have k9:Below w.heap.size w (wr.alloc (Obj.cells ([Value.bool false,Value.bool false,Value.bool false,Value.bool false,Value.bool false,Value.bool false,Value.bool false,Value.bool false,Value.bool false,Value.bool false,Value.bool false,Value.bool false,Value.bool false,Value.bool false,Value.bool false,Value.bool false,Value.bool false,Value.bool false,Value.bool false,Value.bool false,Value.bool false,Value.bool false,Value.bool false,Value.bool false].set c0 (Value.bool true)).toArray 240)):=(uh cn).alloc (uh cn).size _;have jJ:=(uh HF).of_eq (λk hk=>k9.block k ((uh HF).lt k hk));have h6:=jJ.c6;obtain⟨oo,ocap,fx,acN,hon,hoc⟩:=dp (uh HF).ow;have hom:ocap<=9223372036854775807:=(by unfold maxLen at acN;omega);rw[fx]at h6;have HOC:=ab hoc;have Pk:=ab K5;have HSn:=ab WW;have eU:=ab k9;obtain⟨D,hD⟩:∃D,D=wr.heap.size:=⟨_,rfl⟩;have hDB:w.heap.size<=D:=(by rw[hD];exact(uh cn).size);have BN:=ab hD;have HC0:=ab Jd;clear Qt Qo K5 WW k9 jJ fx hoc acN hD Jd;go_wp2_with fail
   obtain⟨w1,wF⟩:∃w1,w1=wr.alloc (Obj.cells ([Value.bool false,Value.bool false,Value.bool false,Value.bool false,Value.bool false,Value.bool false,Value.bool false,Value.bool false,Value.bool false,Value.bool false,Value.bool false,Value.bool false,Value.bool false,Value.bool false,Value.bool false,Value.bool false,Value.bool false,Value.bool false,Value.bool false,Value.bool false,Value.bool false,Value.bool false,Value.bool false,Value.bool false].set c0 (Value.bool true)).toArray 240):=⟨_,rfl⟩;rw[<-wF]at h6 Pk eU ⊢;rw[<-uh BN]at Pk ⊢;clear wF h0r Do fW;go_loopw [34] (λi wr=>∃(k:Nat) (bl:List Bool) (seen:List Nat),k<=f.ow.length/\i=.int .i64 k/\Hid (Ob wr 240 24 D (cR bl))/\Hid (ew bl seen)/\Hid (vi seen (f.ow.drop k)=kz f)/\Hid (Below w.heap.size w wr)) (λi _=>f.ow.length-(intOf i).toNat)
   case atStart=>exact⟨0,_,[c0],zq5 _,rfl,Pk,HSn,ab (uh HE).symm,eU⟩
   case round =>
    obtain⟨k,bl,seen,hk,rfl,VN,WW,hdu,Hw⟩:=hrel;by_cases bS:k<f.ow.length
    .obtain⟨g,ro,aw⟩:=uh HOC (by intro h;rw[h]at bS;simp at bS);subst ro;obtain⟨Cc,uR,uS⟩:=aw k bS;have c0':=((uh Hw).cell (block_lt_of_cell? w _ Cc)).trans Cc;have c1:=((uh Hw).cell (block_lt_of_cell? w _ uR)).trans uR;have c2:=((uh Hw).cell (block_lt_of_cell? w _ uS)).trans uS;clear aw Cc uR uS;obtain⟨lr,-⟩:=hR _ (getElem_mem bS);obtain⟨p,hp⟩:∃p,p=f.ow[k]:=⟨_,rfl⟩;rw[<-hp]at c0' c1 c2 lr;have fI:vi seen (f.ow.drop k)=if p.l∈seen then true else vi (p.l::seen) (f.ow.drop (k+1)):=by
      rw[drop_eq_getElem_cons bS,<-hp];rfl
     rw[uh hdu]at fI;obtain⟨-,n1,n2⟩:=Dy wr (Value.int .i64 p.k) (.int .i64 p.l) (.int .i64 p.r) 182;have Hh:=(uh VN).alloc (.cells #[Value.int .i64 p.k,.int .i64 p.l,.int .i64 p.r] 182);have hdl:bl.length=24:=(uh WW).1;have d1:=(ownsRow.cellAt Hh p.l (by omega)).trans (eG (l:=bl) (by omega));have z1:=ownsRow.frozenAt Hh p.l;obtain⟨sb,zH⟩:∃sb,sb=bl.getD p.l false:=⟨_,rfl⟩;rw[<-zH]at d1;have AF:=(uh WW).2 p.l lr;rw[<-zH]at AF;have qY:=ab ((uh Hw).alloc (uh Hw).size (.cells #[Value.int .i64 p.k,.int .i64 p.l,.int .i64 p.r] 182));have zM:=ab (Hh.set p.l (.bool true));rw[kt]at zM;have agc:=ab ((uh WW).add lr);have HSt:=ab fI;have HIf:=ab AF;clear hp fI Hh zH AF VN WW hdu;cases sb with
     |true =>
      have xx:Hid (kz f=true):=ab (by rw[uh HSt,if_pos ((uh HIf).1 rfl)]);go_wp2_with fail
      go_ret;exact⟨by rw[uh xx];rfl,uh qY⟩
     |false =>
      have UJ:Hid (vi (p.l::seen) (f.ow.drop (k+1))=kz f):=ab (by
       rw[uh HSt,if_neg (λh=>by have:=(uh HIf).2 h;cases this)])
      have xu:=ab ((uh qY).setCell (p:=⟨D,p.l,none⟩) hDB (.bool true));go_wp2_with fail
      go_roundw
      case rel=>exact⟨k+1,_,p.l::seen,by omega,by go_num,zM,agc,UJ,xu⟩
      case measure=>simp[intOf];omega
    .have jk:decide ((k:Int)<(f.ow.length:Int))=false:=(by simp;omega);have xx:Hid (kz f=false):=ab (by rw[<-uh hdu,drop_of_length_le (by omega)];rfl);go_wp2_with fail
     go_ret;exact⟨by rw[uh xx];rfl,uh Hw⟩
def Bk(w:World)(A:Nat)(T:TypeId)(xs:List Value):Prop:=w.heap[A]?=some (.cells xs.toArray T (0,0))
section
variable {w w':World} {A T:Nat} {xs:List Value}
theorem Bk.lt(h:Bk w A T xs):A<w.heap.size:=(Array.getElem?_eq_some_iff.1 h).1
theorem Bk.of_eq(h:Bk w A T xs)(he:w'.heap[A]?=w.heap[A]?):Bk w' A T xs:=he.trans h
theorem Bk.cell(h:Bk w A T xs)(j:Nat){u:Value}(hj:xs[j]?=some u):w.cell? ⟨A,j,none⟩=some u:=by
 rw[cell_of_row w A j xs.toArray T (0,0) h];simpa using hj
theorem Bk.frz(h:Bk w A T xs)(j:Nat):w.frozen? ⟨A,j,none⟩=false:=frozen_of_row w A j xs.toArray T h
theorem Bk.set(h:Bk w A T xs)(j:Nat)(u:Value):Bk (w.setCell ⟨A,j,none⟩ u) A T (xs.set j u):=by
 have:=heap_setCell_same w A j xs.toArray T u h;unfold Bk;rw[this];simp
theorem Bk.new(w:World)(T:TypeId)(xs:List Value):Bk (w.alloc (.cells xs.toArray T)) w.heap.size T xs:=heap_alloc_new w _
theorem Bk.alloc(h:Bk w A T xs)(o:Obj):Bk (w.alloc o) A T xs:=h.of_eq (heap_alloc _ _ _ h.lt)
theorem Bk.below(h:Bk w A T xs)(hb:Below w.heap.size w w'):Bk w' A T xs:=h.of_eq (hb.block _ h.lt)
theorem Bk.stp{F F':List Nat}(h:Bk w A T xs)(hs:aq F w F' w')(hA:A ∉ F):Bk w' A T xs:=h.of_eq (hs.block _ h.lt hA)
theorem Bk.setO(h:Bk w A T xs){p:Addr}(hp:p.block≠A)(u:Value):Bk (w.setCell p u) A T xs:=h.of_eq (heap_setCell _ _ _ _ (λe=>hp e.symm))
end
section
variable {w w':World} {B e sz n:Nat} {v:Value} {xs:List Value}
theorem ca(h:w.ownsRow B e sz v n xs){p:Addr}(hp:v.ownBlock≠some p.block)(u:Value):(w.setCell p u).ownsRow B e sz v n xs :=
 ae h (λk hk=>heap_setCell _ _ _ _ (by rintro rfl;exact hp hk))
theorem dB{B':Nat}(h:w.ownsRow B e sz v n xs)(hb:B'<=B):w.ownsRow B' e sz v n xs:=by
 refine⟨h.1,?_⟩;rcases h.2 with hn|⟨g,cap,cur,rfl,hB,hg,rest⟩
 .exact .inl hn
 .exact .inr ⟨g,cap,cur,rfl,zq3 hb hB,hg,rest⟩
theorem eQ(h:w.ownsRow B e sz v n xs)(hb:Below w.heap.size w w'):w'.ownsRow B e sz v n xs:=ae h (λk hk=>hb.block k (h.lt k hk).2)
theorem aj(h:w.ownsRow B e sz v n xs):∃ao cap,v=.slice ao n cap/\n<=cap/\cap<=9223372036854775807:=by
 rcases h.2 with⟨rfl,rfl⟩|⟨g,cap,cur,rfl,_,_,h1,h2,_⟩
 .exact⟨_,_,rfl,by omega,by omega⟩
 .exact⟨_,_,rfl,h1,by unfold maxLen at h2;omega⟩
theorem bT(h:w.ownsRow B e sz v n xs)(hn:0<n):∃g cap,v=.slice (some ⟨g,0,none⟩) n cap/\n<=cap/\cap<=9223372036854775807/\g<w.heap.size:=by
 have hh:=h;rcases h.2 with⟨rfl,rfl⟩|⟨g,cap,cur,rfl,_,_,h1,h2,_⟩
 .omega
 .exact⟨_,_,rfl,h1,by unfold maxLen at h2;omega,(hh.lt g rfl).2⟩
end
theorem aq.foots{F F' F'':List Nat}{w w':World}(h:aq F w F' w')(hf:∀k∈F'',k∈F\/w.heap.size<=k):aq F w F'' w':=⟨h.os,h.tape,h.output,h.size,h.block,hf⟩
theorem aq.wide{F F' G:List Nat}{w w':World}(h:aq F w F' w')(hf:∀k∈F,k∈G):aq G w G w':=⟨h.os,h.tape,h.output,h.size,λk hk hG=>h.block k hk (λhF=>hG (hf k hF)),λ_ hk=>zq0 hk⟩
theorem aq.ofBw{F:List Nat}{w w':World}(h:Below w.heap.size w w'):aq F w F w':=⟨h.os,h.tape,h.output,h.size,λk hk _=>h.block k hk,λ_ hk=>zq0 hk⟩
structure Fm(w:World)(A:Nat)(f:CF)(av ov:Value):Prop where
 is:dT w A f av ov
 nd:(aG A av ov).Nodup
 c5:f.cl.length=5
section
variable {w w1 w':World} {A:Nat} {f:CF} {av ov v':Value}
theorem Fm.nds(h:Fm w A f av ov):av.ownBlock≠some A/\ov.ownBlock≠some A/\∀k,av.ownBlock=some k->ov.ownBlock≠some k:=by
 have:=h.nd;unfold aG at this;rw[nodup_cons,nodup_append]at this;obtain⟨h1,-,-,h4⟩:=this;simp only[mem_append,Option.mem_toList,not_or]at h1;exact⟨h1.1,h1.2,λk hk hc=>h4 k (by simpa using hk) k (by simpa using hc) rfl⟩
theorem Fm.of_eq(h:Fm w A f av ov)(he:∀k∈aG A av ov,w'.heap[k]?=w.heap[k]?):Fm w' A f av ov:=⟨h.is.of_eq he,h.nd,h.c5⟩
theorem Fm.lt(h:Fm w A f av ov):∀k∈aG A av ov,k<w.heap.size:=h.is.lt
theorem Fm.below(h:Fm w A f av ov)(hb:Below w.heap.size w w'):Fm w' A f av ov:=h.of_eq (λk hk=>hb.block k (h.lt k hk))
theorem nd3{a:Nat}{u v:Value}(h1:u.ownBlock≠some a)(h2:v.ownBlock≠some a)(h3:∀k,u.ownBlock=some k->v.ownBlock≠some k):(aG a u v).Nodup:=by
 unfold aG;rw[nodup_cons,nodup_append];refine⟨by simp only[mem_append,Option.mem_toList,not_or];exact⟨h1,h2⟩,by cases u.ownBlock <;> simp,by cases v.ownBlock <;> simp,?_⟩;intro x hx y hy e;subst e;rw[Option.mem_toList]at hx hy;exact h3 x hx hy
theorem j5{g:Nat}{o:Obj}{row:Option Nat}(hg:(w.alloc o).grownBy w1 row)(b7:some g=row\/g=(w.alloc o).heap.size):aq row.toList w [g] w1 :=
 ⟨hg.os,hg.tape,hg.output,zq3 (by simp) hg.size,λk hk hn=>(hg.block k (by simp;omega) (λe=>hn (by rw[<-e];simp))).trans (heap_alloc _ _ _ hk),λk hk=>by
  rw[mem_singleton]at hk;subst hk;rcases b7 with e|e
  .left;rw[<-e];simp
  .right;rw[e];simp⟩
theorem Ob.stored{T n:Nat}{xs:List Value}(h:Ob w T n A xs)(j:Nat)(u:Value):Ob (w.setCell ⟨A,j,none⟩ u) T n A (xs.set j u):=(ownsRow.stored h j u).1
theorem Fm.newOv{ow':List Pr}{F':List Nat}(h:Fm w A f av ov)(hs:aq ov.ownBlock.toList w F' w1)(hF:∀k,v'.ownBlock=some k->k∈F')(hr:w1.ownsRow 0 182 3 v' ow'.length (af ow')):
  Fm (w1.setCell ⟨A,6,none⟩ v') A { f with ow:=ow' } av v'/\aq (aG A av ov) w (aG A av v') (w1.setCell ⟨A,6,none⟩ v'):=by
 obtain⟨n1,n2,n3⟩:=h.nds;have hA:A ∉ ov.ownBlock.toList:=by simpa using n2
 have hv:∀k,v'.ownBlock=some k->ov.ownBlock=some k\/w.heap.size<=k:=λk hk=>by
  rcases hs.foot k (hF k hk) with g|g
  .exact zq0 (by simpa using g)
  .exact zq1 g
 have CY:=h.lt A (by simp[aG]);have hvA:v'.ownBlock≠some A:=λe=>by
  rcases hv A e with g|g
  .exact n2 g
  .omega
 have hva:∀k,av.ownBlock=some k->v'.ownBlock≠some k:=λk hk e=>by
  rcases hv k e with g|g
  .exact n3 k hk g
  .have:=h.lt k (by simp[aG,hk]);omega
 have ob1:Ob w1 179 7 A (iq f av ov):=h.is.ob.of_eq (hs.block A CY hA);have o2:=ob1.stored 6 v';refine⟨⟨⟨o2,?_,?_⟩,nd3 n1 hvA hva,h.c5⟩,?_⟩
 .refine ae (w:=w) h.is.ap (λk hk=>?_);rw[heap_setCell _ _ _ _ (by show k≠A;rintro rfl;exact n1 hk)];exact hs.block k (h.lt k (by simp[aG,hk])) (by simpa using n3 k hk)
 .exact ca hr (p:=⟨A,6,none⟩) hvA v'
 .refine((hs.wide (G:=aG A av ov) (λk hk=>by simp only[aG,mem_cons,mem_append];exact zq1 (zq1 hk))).setCell (p:=⟨A,6,none⟩) (zq0 (by simp[aG])) v').foots (λk hk=>?_);simp only[aG,mem_cons,mem_append,Option.mem_toList]at hk ⊢;rcases hk with rfl|hk|hk
  .exact zq0 (zq0 rfl)
  .exact zq0 (zq1 (zq0 hk))
  .rcases hv k hk with g|g
   .exact zq0 (zq1 (zq1 g))
   .exact zq1 g
theorem Fm.newAv{ap':List Pr}{F':List Nat}(h:Fm w A f av ov)(hs:aq av.ownBlock.toList w F' w1)(hF:∀k,v'.ownBlock=some k->k∈F')(hr:w1.ownsRow 0 182 3 v' ap'.length (af ap')):
  Fm (w1.setCell ⟨A,5,none⟩ v') A { f with ap:=ap' } v' ov/\aq (aG A av ov) w (aG A v' ov) (w1.setCell ⟨A,5,none⟩ v'):=by
 obtain⟨n1,n2,n3⟩:=h.nds;have hA:A ∉ av.ownBlock.toList:=by simpa using n1
 have hv:∀k,v'.ownBlock=some k->av.ownBlock=some k\/w.heap.size<=k:=λk hk=>by
  rcases hs.foot k (hF k hk) with g|g
  .exact zq0 (by simpa using g)
  .exact zq1 g
 have CY:=h.lt A (by simp[aG]);have hvA:v'.ownBlock≠some A:=λe=>by
  rcases hv A e with g|g
  .exact n1 g
  .omega
 have hva:∀k,v'.ownBlock=some k->ov.ownBlock≠some k:=λk hk e=>by
  rcases hv k hk with g|g
  .exact n3 k g e
  .have:=h.lt k (by simp[aG,e]);omega
 have ob1:Ob w1 179 7 A (iq f av ov):=h.is.ob.of_eq (hs.block A CY hA);have o2:=ob1.stored 5 v';refine⟨⟨⟨o2,?_,?_⟩,nd3 hvA n2 hva,h.c5⟩,?_⟩
 .exact ca hr (p:=⟨A,5,none⟩) hvA v'
 .refine ae (w:=w) h.is.ow (λk hk=>?_);rw[heap_setCell _ _ _ _ (by show k≠A;rintro rfl;exact n2 hk)];exact hs.block k (h.lt k (by simp[aG,hk])) (by simpa using λe=>n3 k e hk)
 .refine((hs.wide (G:=aG A av ov) (λk hk=>by simp only[aG,mem_cons,mem_append];exact zq1 (zq0 hk))).setCell (p:=⟨A,5,none⟩) (zq0 (by simp[aG])) v').foots (λk hk=>?_);simp only[aG,mem_cons,mem_append,Option.mem_toList]at hk ⊢;rcases hk with rfl|hk|hk
  .exact zq0 (zq0 rfl)
  .rcases hv k hk with g|g
   .exact zq0 (zq1 (zq0 g))
   .exact zq1 g
  .exact zq0 (zq1 (zq1 hk))
theorem Fm.setCl(h:Fm w A f av ov)(i c:Nat)(hi:i<5):Fm (w.setCell ⟨A,i,none⟩ (.int .i64 (c:Int))) A { f with cl:=f.cl.set i c } av ov:=by
 obtain⟨n1,n2,n3⟩:=h.nds;have h5:=h.c5;refine⟨⟨?_,ca h.is.ap (p:=⟨A,i,none⟩) n1 _,ca h.is.ow (p:=⟨A,i,none⟩) n2 _⟩,h.nd,by simpa using h5⟩;have o:=h.is.ob.stored i (.int .i64 (c:Int));have e:(iq f av ov).set i (.int .i64 (c:Int))=iq { f with cl:=f.cl.set i c } av ov:=by
  obtain⟨a0,a1,a2,a3,a4,ha⟩:∃a0 a1 a2 a3 a4,f.cl=[a0,a1,a2,a3,a4]:=by
   match hc:f.cl,h5 with
   |[a0,a1,a2,a3,a4],_=>exact⟨a0,a1,a2,a3,a4,rfl⟩
  have hk:i=0\/i=1\/i=2\/i=3\/i=4:=by omega
  rcases hk with rfl|rfl|rfl|rfl|rfl <;> simp[iq,fX,ha]
 rw[e]at o;exact o
end
theorem px(p:Pr):∀u∈RT p,u.oneCell'=true:=by
 intro u hu;simp only[RT,mem_cons,not_mem_nil,or_false]at hu;rcases hu with rfl|rfl|rfl <;> rfl
section
variable {w:World} {A:Nat} {f:CF} {av ov:Value}
theorem pf(h:Fm w A f av ov)(k l r:Nat)(hn:f.ow.length<=100000):Calls prog 254 #[.pointer (some ⟨A,0,none⟩),.int .i64 k,.int .i64 l,.int .i64 r] w λe w'=>e=.returned (.tuple #[])/\∃ov',Fm w' A { f with ow:=f.ow++[⟨k,l,r⟩] } av ov'/\aq (aG A av ov) w (aG A av ov') w':=by
 obtain⟨i0,hi,fW,fy,fJ⟩:=info_parts infoPair;have H:=ab h;have c6:=h.is.c6;have HS:=ab h.is.ow;obtain⟨sa,sc,hs,-,-⟩:=aj h.is.ow;subst hs;clear h;go_enter func254,ntmps254;go_wp2_with (at_builtin;refine aQ _ rfl (.tmp 12) (.tmp 17) 177 rfl 0 182 i0 _ 3 24 underlying177 hi fW fy fJ rfl (by decide) _ f.ow.length (af f.ow) rfl ((uh HS).alloc _) ⟨_,0,none⟩ 1 [.int .i64 (k:Int),.int .i64 (l:Int),.int .i64 (r:Int)] rfl rfl (aM _ _ (by simp) [.int .i64 (k:Int),.int .i64 (l:Int),.int .i64 (r:Int)] _) (px ⟨k,l,r⟩) (by omega) (by omega) (zq5 _) ?_)
 intro g1 cap1 w1 eE dg jj;have dc:=j5 dg (by simpa using jj);have hf:=(uh H).newOv (ow':=f.ow++[⟨k,l,r⟩]) dc (v':=.slice (some ⟨g1,0,none⟩) (f.ow.length+1) cap1) (λk hk=>by simpa[Value.ownBlock] using hk.symm) (by
  rw[length_append,length_singleton,dZ];exact eE)
 have ob1:=(uh H).is.ob.of_eq (dc.block A ((uh H).lt A (by simp[aG])) (by simpa using (uh H).nds.2.1));have d6:=ownsRow.cellAt ob1 6 (by omega);have f6:=ownsRow.frozenAt ob1 6;have HF:=ab hf;clear eE dg jj dc hf ob1 c6;go_wp2_with fail
 go_end0
 exact⟨rfl,_,(uh HF).1,(uh HF).2⟩
theorem pw(h:Fm w A f av ov)(l r:Nat)(hn:f.ap.length<=100000):Calls prog 259 #[.pointer (some ⟨A,0,none⟩),.int .i64 l,.int .i64 r] w λe w'=>e=.returned (.tuple #[])/\∃av',Fm w' A { f with ap:=f.ap++[⟨2,l,r⟩] } av' ov/\aq (aG A av ov) w (aG A av' ov) w':=by
 obtain⟨i0,hi,fW,fy,fJ⟩:=info_parts infoPair;have H:=ab h;have c5:=h.is.c5;have HS:=ab h.is.ap;obtain⟨sa,sc,hs,-,-⟩:=aj h.is.ap;subst hs;clear h;go_enter func259,ntmps259;go_wp2_with (at_builtin;refine aQ _ rfl (.tmp 10) (.tmp 14) 177 rfl 0 182 i0 _ 3 24 underlying177 hi fW fy fJ rfl (by decide) _ f.ap.length (af f.ap) rfl ((uh HS).alloc _) ⟨_,0,none⟩ 1 [.int .i64 2,.int .i64 (l:Int),.int .i64 (r:Int)] rfl rfl (aM _ _ (by simp) [.int .i64 2,.int .i64 (l:Int),.int .i64 (r:Int)] _) (px ⟨2,l,r⟩) (by omega) (by omega) (zq5 _) ?_)
 intro g1 cap1 w1 eE dg jj;have dc:=j5 dg (by simpa using jj);have hf:=(uh H).newAv (ap':=f.ap++[⟨2,l,r⟩]) dc (v':=.slice (some ⟨g1,0,none⟩) (f.ap.length+1) cap1) (λk hk=>by simpa[Value.ownBlock] using hk.symm) (by
  rw[length_append,length_singleton,dZ];exact eE)
 have ob1:=(uh H).is.ob.of_eq (dc.block A ((uh H).lt A (by simp[aG])) (by simpa using (uh H).nds.1));have d6:=ownsRow.cellAt ob1 5 (by omega);have f6:=ownsRow.frozenAt ob1 5;have HF:=ab hf;clear eE dg jj dc hf ob1 c5;go_wp2_with fail
 go_end0
 exact⟨rfl,_,(uh HF).1,(uh HF).2⟩
end
theorem ah(w:World)(o:Obj):Below w.heap.size w (w.alloc o):=(Below.refl _ _).alloc (zq4 _) o
section
variable {w:World} {A:Nat} {f:CF} {av ov:Value}
def GN(w:World)(f:CF)(A':Nat)(w':World):Prop:=∃av' ov',Fm w' A' f av' ov'/\(∀k∈aG A' av' ov',w.heap.size<=k)/\Below w.heap.size w w'
theorem FZ{w0:World}{e sz n:Nat}{v:Value}{xs:List Value}(h:w.ownsRow w0.heap.size e sz v n xs):∀k,v.ownBlock=some k->w0.heap.size<=k/\k<w.heap.size:=λk hk=>h.lt k hk
theorem cD(h:dT w A f av ov)(h5:f.cl.length=5)(ha:f.ap.length<=40000)(ho:f.ow.length<=40000):Calls prog 241 #[.pointer (some ⟨A,0,none⟩)] w λe w'=>∃A',e=.returned (.pointer (some ⟨A',0,none⟩))/\GN w f A' w':=by
 obtain⟨i0,jN,fW,fy,fJ⟩:=info_parts infoPair;have H:=ab h;have bV:=ah w (.cells #[] 182);have c5:=(h.alloc (.cells #[] 182)).c5;have HLa:=ab ((S8.of_own h.ap ha).below bV);have ss:=ab (ownsRow_lit (base:=w.heap.size) (e:=182) (size:=3) w #[] 0 (zq4 _) (by simp[maxLen]) rfl);obtain⟨aa,ac,jK,-,-⟩:=aj h.ap;obtain⟨oa,oc,fx,-,-⟩:=aj h.ow;have HAV:=ab jK;have IY:=ab fx;rw[jK]at c5 HLa;clear h bV jK fx;go_enter func241,ntmps241;go_wp2_with (at_builtin;refine mh rfl (.tmp 5) (.tmp 9) 177 rfl w.heap.size 182 i0 _ 3 24 underlying177 jN fW fy fJ rfl (by decide) _ 0 [] rfl (uh ss) _ f.ap.length (af f.ap) rfl (uh HLa) (l5 f.ap) (by omega) (by decide) (by simp) ?_)
 intro v1 w1 eE dg;have bB:Below w.heap.size w w1:=((Below.refl w.heap.size w).alloc (zq4 _) _).grown dg (by simp) (λk e=>by cases e;exact zq4 _);have h1:=(uh H).of_eq (w':=w1) (λk hk=>bB.block k ((uh H).lt k hk));have hb1x:=ah w1 (.cells #[] 182);have c6:=(h1.alloc (.cells #[] 182)).c6;have HLo:=ab ((S8.of_own h1.ow ho).below hb1x);have UL:=ab (ownsRow_lit (base:=w1.heap.size) (e:=182) (size:=3) w1 #[] 0 (zq4 _) (by simp[maxLen]) rfl);rw[uh IY]at c6 HLo;obtain⟨a1,k1,rfl⟩:=bu eE;have Ps:=ab eE;have eU:=ab bB;have H1:=ab h1;clear eE dg bB h1 hb1x c5 HLa ss;go_wp2_with (at_builtin;refine mh rfl (.tmp 11) (.tmp 15) 177 rfl w1.heap.size 182 i0 _ 3 24 underlying177 jN fW fy fJ rfl (by decide) _ 0 [] rfl (uh UL) _ f.ow.length (af f.ow) rfl (uh HLo) (l5 f.ow) (by omega) (by decide) (by simp) ?_)
 intro v2 w2 br aL;have aR:Below w1.heap.size w1 w2:=((Below.refl w1.heap.size w1).alloc (zq4 _) _).grown aL (by simp) (λk e=>by cases e;exact zq4 _);have h2:=(uh H1).of_eq (w':=w2) (λk hk=>aR.block k ((uh H1).lt k hk));obtain⟨a2,k2,rfl⟩:=bu br;have x0:=h2.cls (i:=0) (by omega);have x1:=h2.cls (i:=1) (by omega);have x2:=h2.cls (i:=2) (by omega);have x3:=h2.cls (i:=3) (by omega);have x4:=h2.cls (i:=4) (by omega);have hN:GN w f w2.heap.size (w2.alloc (.cells #[fX f 0,fX f 1,fX f 2,fX f 3,fX f 4,.slice a1 f.ap.length k1,.slice a2 f.ow.length k2] 179)):=by
  have Wm:=(uh eU).trans (aR.mono (uh eU).size);have r1:=eQ (uh Ps) aR;have l1:=FZ (w0:=w) r1;have l1':=(uh Ps).lt;have l2:=FZ (w0:=w1) br;have dc:=(uh eU).size;refine⟨.slice a1 f.ap.length k1,.slice a2 f.ow.length k2,⟨⟨?_,dB (r1.alloc _) (zq5 _),dB (br.alloc _) (zq5 _)⟩,nd3 (λe=>?_) (λe=>?_) (λk e1 e2=>?_),h5⟩,λk hk=>?_,Wm.alloc Wm.size _⟩
  .exact ownsRow_lit (base:=0) (e:=179) (size:=7) w2 #[fX f 0,fX f 1,fX f 2,fX f 3,fX f 4,.slice a1 f.ap.length k1,.slice a2 f.ow.length k2] 1 (zq5 _) (by simp[maxLen]) rfl
  .have:=(l1 _ (by simpa[Value.ownBlock] using e)).2;omega
  .have:=(l2 _ (by simpa[Value.ownBlock] using e)).2;omega
  .have h1:=(l1' k (by simpa[Value.ownBlock] using e1)).2;have h2:=(l2 k (by simpa[Value.ownBlock] using e2)).1;omega
  .simp only[aG,mem_cons,mem_append,Option.mem_toList]at hk;rcases hk with rfl|hk|hk
   .exact Wm.size
   .exact(l1 k (by simpa[Value.ownBlock] using hk)).1
   .have:=(l2 k (by simpa[Value.ownBlock] using hk)).1;omega
 have HN:=ab hN;unfold fX at x0 x1 x2 x3 x4 HN;obtain⟨y0,e0⟩:∃y,y=f.cl.getD 0 0:=⟨_,rfl⟩;obtain⟨y1,e1⟩:∃y,y=f.cl.getD 1 0:=⟨_,rfl⟩;obtain⟨y2,e2⟩:∃y,y=f.cl.getD 2 0:=⟨_,rfl⟩;obtain⟨y3,e3⟩:∃y,y=f.cl.getD 3 0:=⟨_,rfl⟩;obtain⟨y4,e4⟩:∃y,y=f.cl.getD 4 0:=⟨_,rfl⟩;rw[<-e0]at x0;rw[<-e1]at x1;rw[<-e2]at x2;rw[<-e3]at x3;rw[<-e4]at x4;rw[<-e0,<-e1,<-e2,<-e3,<-e4]at HN;clear e0 e1 e2 e3 e4 h5;clear br aL aR h2 hN c6;go_wp2_with fail
 go_ret;exact⟨_,rfl,uh HN⟩
end
def l8(kept gone c:Nat):Nat:=if c=gone then kept else c
def DM(kept gone:Nat)(p:Pr):Pr:=⟨p.k,l8 kept gone p.l,l8 kept gone p.r⟩
def wH(f:CF)(kept gone:Nat):CF:=⟨f.cl.map (l8 kept gone),f.ap.map (DM kept gone),f.ow.map (DM kept gone)⟩
theorem iy{l:List Pr}{i:Nat}(hi:i<l.length)(c:Nat):(af l).set (i*3+1) (.int .i64 (c:Int))=af (l.set i ⟨(l.getD i aE).k,c,(l.getD i aE).r⟩):=by
 induction l generalizing i with
 |nil=>simp at hi
 |cons x l ih =>
  have hx:∀y:Pr,af (y::l)=[Value.int .i64 y.k,.int .i64 y.l,.int .i64 y.r]++af l:=λy=>rfl;cases i with
  |zero=>rw[hx,set_cons_zero,hx];rfl
  |succ i =>
   have h1:=ih (i:=i) (by simpa using hi);rw[hx,set_append_right _ _ (by simp;omega),set_cons_succ];show _=[Value.int .i64 x.k,.int .i64 x.l,.int .i64 x.r]++af _;rw[show(i+1)*3+1 - [Value.int .i64 (x.k:Int),.int .i64 (x.l:Int),.int .i64 (x.r:Int)].length=i*3+1 by simp;omega,h1];rfl
def rs(kept gone:Nat)(l:List Pr)(k:Nat):List Pr:=(l.take k).map (DM kept gone)++l.drop k
theorem RZ(kept gone:Nat)(l:List Pr)(k:Nat):(rs kept gone l k).length=l.length:=by simp[rs];omega
theorem RY{kept gone:Nat}{l:List Pr}{k:Nat}(hk:k<l.length):(rs kept gone l k).getD k aE=l[k]:=by
 unfold rs;rw[getD_eq_getElem?_getD,getElem?_append_right (by simp;omega)];simp[hk,Nat.min_eq_left (Nat.le_of_lt hk)]
theorem NH{kept gone:Nat}{l:List Pr}{k:Nat}(hk:k<l.length):rs kept gone l (k+1)=(rs kept gone l k).set k (DM kept gone l[k]):=by
 unfold rs;have e:l.drop k=l[k]::l.drop (k+1):=drop_eq_getElem_cons hk;have e2:(l.take (k+1)).map (DM kept gone)=(l.take k).map (DM kept gone)++[DM kept gone l[k]]:=by
  rw[take_add_one,getElem?_eq_getElem hk,map_append];rfl
 have e3:((l.take k).map (DM kept gone)).length=k:=by simp;omega
 rw[e2,e,set_append_right _ _ (by omega),e3,Nat.sub_self,set_cons_zero,append_assoc];rfl
section
variable {w:World} {v:Value} {l:List Pr}
theorem tY(h:w.ownsRow 0 182 3 v l.length (af l))(hl:l.length<=100000)(kept gone:Nat):
  Calls prog 266 #[v,.int .i64 kept,.int .i64 gone] w λe w'=>e=.returned (.tuple #[])/\w'.ownsRow 0 182 3 v l.length (af (l.map (DM kept gone)))/\aq v.ownBlock.toList w v.ownBlock.toList w':=by
 obtain⟨va,vc,hv,Mv,QX⟩:=aj h;subst hv;have ss:Hid (w.ownsRow 0 182 3 (.slice va l.length vc) l.length (af (rs kept gone l 0))/\aq (Value.slice va l.length vc).ownBlock.toList w (Value.slice va l.length vc).ownBlock.toList w):=ab ⟨by simpa[rs] using h,aq.refl _ _⟩;clear h;go_enter func266,ntmps266;go_wp2_with fail
 go_loopw [6] (λi wx=>∃(k:Nat),k<=l.length/\i=.int .i64 k/\Hid (wx.ownsRow 0 182 3 (.slice va l.length vc) l.length (af (rs kept gone l k))/\aq (Value.slice va l.length vc).ownBlock.toList w (Value.slice va l.length vc).ownBlock.toList wx)) (λi _=>l.length-(intOf i).toNat)
 case atStart=>exact⟨0,zq5 _,rfl,ss⟩
 case round =>
  clear ss;obtain⟨k,hk,rfl,hI⟩:=hrel;by_cases ar:k<l.length
  .have hd:decide ((k:Int)<(l.length:Int))=true:=(by simp;omega);obtain⟨g,cap,c9,-,-,-⟩:=bT (uh hI).1 (by omega);simp only[Value.slice.injEq,true_and]at c9;obtain⟨rfl,rfl⟩:=c9;obtain⟨p,hp⟩:∃p,p=l[k]:=⟨_,rfl⟩;have hK:=RY (kept:=kept) (gone:=gone) ar;have hr:=(uh hI).1;have db:=RZ kept gone l k;have Ij:wr.ownsRow 0 182 3 (.slice (some ⟨g,0,none⟩) (rs kept gone l k).length vc) (rs kept gone l k).length (af (rs kept gone l k)):=(by rw[db];exact hr);obtain⟨-,x1,x2⟩:=aA Ij (i:=k) (by omega);rw[hK,<-hp]at x1 x2;have f1:=hr.frozenAt (k*3+1);have f2:=hr.frozenAt (k*3+2);have i1:(0:Int)<=(k:Int):=(by omega);have i2:(k:Int)<(l.length:Int):=by omega
   -- what the two stores leave
   have dc:∀c:Nat,(wr.setCell ⟨g,k*3+1,none⟩ (.int .i64 (c:Int))).ownsRow 0 182 3 (.slice (some ⟨g,0,none⟩) l.length vc) l.length (af ((rs kept gone l k).set k ⟨p.k,c,p.r⟩)):=λc=>by
    have:=(hr.stored (k*3+1) (.int .i64 (c:Int))).1;rw[iy (by omega),hK,<-hp]at this;exact this
   have dF:∀(w2:World) (c d:Nat),w2.ownsRow 0 182 3 (.slice (some ⟨g,0,none⟩) l.length vc) l.length (af ((rs kept gone l k).set k ⟨p.k,c,p.r⟩))->(w2.setCell ⟨g,k*3+2,none⟩ (.int .i64 (d:Int))).ownsRow 0 182 3 (.slice (some ⟨g,0,none⟩) l.length vc) l.length (af ((rs kept gone l k).set k ⟨p.k,c,d⟩)):=λw2 c d hw=>by
    have:=(hw.stored (k*3+2) (.int .i64 (d:Int))).1;rw[ee (by simp;omega)]at this;simpa[db,ar] using this
   have E8:wr.ownsRow 0 182 3 (.slice (some ⟨g,0,none⟩) l.length vc) l.length (af ((rs kept gone l k).set k ⟨p.k,p.l,p.r⟩)):=by
    have e:(rs kept gone l k).set k ⟨p.k,p.l,p.r⟩=rs kept gone l k:=by
     have:(⟨p.k,p.l,p.r⟩:Pr)=(rs kept gone l k)[k]'(by omega):=by
      have h2:=iW (l:=rs kept gone l k) (k:=k) (by omega);rw[<-h2,hK,<-hp]
     rw[this,set_getElem_self]
    rw[e];exact hr
   have qC:=ab E8;have cg:=ab dc;have cj:=ab dF;have cI:=ab (uh hI).2;have od:Hid (rs kept gone l (k+1)=(rs kept gone l k).set k ⟨p.k,l8 kept gone p.l,l8 kept gone p.r⟩):=ab (by rw[NH ar,<-hp];rfl);clear hr Ij hK db hp E8 dc dF hI;have y2:∀c:Nat,(wr.setCell ⟨g,k*3+1,none⟩ (.int .i64 (c:Int))).cell? ⟨g,k*3+2,none⟩=some (.int .i64 (p.r:Int)):=λc=>by
    rw[cell?_setCell_other _ _ _ _ (by simp)];exact x2
   have z2:∀c:Nat,(wr.setCell ⟨g,k*3+1,none⟩ (.int .i64 (c:Int))).frozen? ⟨g,k*3+2,none⟩=false:=λc=>(uh cg c).frozenAt (k*3+2);by_cases e1:p.l=gone
   .by_cases e2:p.r=gone
    .have b1:((p.l:Int)==(gone:Int))=true:=(by simp[e1]);have b2:((p.r:Int)==(gone:Int))=true:=(by simp[e2]);have HE:Hid (l8 kept gone p.l=kept/\l8 kept gone p.r=kept):=ab ⟨if_pos e1,if_pos e2⟩;clear e1 e2;go_wp2_with fail
     go_roundw
     case rel=>exact⟨k+1,by omega,by go_num,ab ⟨by rw[uh od,(uh HE).1,(uh HE).2];exact uh cj _ kept kept (uh cg kept),((uh cI).setCell (p:=⟨g,k*3+1,none⟩) (zq0 (by simp[Value.ownBlock])) _).setCell (p:=⟨g,k*3+2,none⟩) (zq0 (by simp[Value.ownBlock])) _⟩⟩
     case measure=>simp[intOf];omega
    .have b1:((p.l:Int)==(gone:Int))=true:=(by simp[e1]);have b2:((p.r:Int)==(gone:Int))=false:=(by simp;omega);have HE:Hid (l8 kept gone p.l=kept/\l8 kept gone p.r=p.r):=ab ⟨if_pos e1,if_neg e2⟩;clear e1 e2;go_wp2_with fail
     go_roundw
     case rel=>exact⟨k+1,by omega,by go_num,ab ⟨by rw[uh od,(uh HE).1,(uh HE).2];exact uh cg kept,(uh cI).setCell (p:=⟨g,k*3+1,none⟩) (zq0 (by simp[Value.ownBlock])) _⟩⟩
     case measure=>simp[intOf];omega
   .by_cases e2:p.r=gone
    .have b1:((p.l:Int)==(gone:Int))=false:=(by simp;omega);have b2:((p.r:Int)==(gone:Int))=true:=(by simp[e2]);have HE:Hid (l8 kept gone p.l=p.l/\l8 kept gone p.r=kept):=ab ⟨if_neg e1,if_pos e2⟩;clear e1 e2;go_wp2_with fail
     go_roundw
     case rel=>exact⟨k+1,by omega,by go_num,ab ⟨by rw[uh od,(uh HE).1,(uh HE).2];exact uh cj _ p.l kept (uh qC),(uh cI).setCell (p:=⟨g,k*3+2,none⟩) (zq0 (by simp[Value.ownBlock])) _⟩⟩
     case measure=>simp[intOf];omega
    .have b1:((p.l:Int)==(gone:Int))=false:=(by simp;omega);have b2:((p.r:Int)==(gone:Int))=false:=(by simp;omega);have HE:Hid (l8 kept gone p.l=p.l/\l8 kept gone p.r=p.r):=ab ⟨if_neg e1,if_neg e2⟩;clear e1 e2;go_wp2_with fail
     go_roundw
     case rel=>exact⟨k+1,by omega,by go_num,ab ⟨by rw[uh od,(uh HE).1,(uh HE).2];exact uh qC,uh cI⟩⟩
     case measure=>simp[intOf];omega
  .have hd:decide ((k:Int)<(l.length:Int))=false:=(by simp;omega);have HE:Hid (rs kept gone l k=l.map (DM kept gone)):=ab (by unfold rs;rw[take_of_length_le (by omega),drop_eq_nil_of_le (by omega),append_nil]);go_wp2_with fail
   go_end0
   exact⟨rfl,by rw[<-uh HE];exact(uh hI).1,(uh hI).2⟩
end
def Aa(kept gone:Nat)(c:List Nat)(k:Nat):List Nat:=(c.take k).map (l8 kept gone)++c.drop k
theorem J8{kept gone:Nat}{c:List Nat}{k:Nat}(hk:k<c.length):Aa kept gone c (k+1)=(Aa kept gone c k).set k (l8 kept gone (c.getD k 0))/\(Aa kept gone c k).getD k 0=c.getD k 0:=by
 unfold Aa;have e:c.drop k=c[k]::c.drop (k+1):=drop_eq_getElem_cons hk;have e0:c.getD k 0=c[k]:=by simp[hk]
 have e2:(c.take (k+1)).map (l8 kept gone)=(c.take k).map (l8 kept gone)++[l8 kept gone c[k]]:=by
  rw[take_add_one,getElem?_eq_getElem hk,map_append];rfl
 have e3:((c.take k).map (l8 kept gone)).length=k:=by simp;omega
 refine⟨?_,?_⟩
 .rw[e2,e,set_append_right _ _ (by omega),e3,Nat.sub_self,set_cons_zero,append_assoc,e0];rfl
 .rw[getD_eq_getElem?_getD,getElem?_append_right (by omega),e3,Nat.sub_self,e,e0];rfl
theorem PR(kept gone:Nat)(c:List Nat)(k:Nat):(Aa kept gone c k).length=c.length:=by simp[Aa];omega
theorem NR{l:List Nat}{k c:Nat}(hk:k<l.length)(h:l.getD k 0=c):l.set k c=l:=by
 have:c=l[k]:=by rw[<-h];simp[hk]
 rw[this,set_getElem_self]
section
variable {w w':World} {A:Nat} {f:CF} {av ov:Value}
theorem Fm.newRow(h:Fm w A f av ov){ow':List Pr}(hl:ow'.length=f.ow.length)(hr:w'.ownsRow 0 182 3 ov f.ow.length (af ow'))(hs:aq ov.ownBlock.toList w ov.ownBlock.toList w'):Fm w' A { f with ow:=ow' } av ov/\aq (aG A av ov) w (aG A av ov) w':=by
 obtain⟨n1,n2,n3⟩:=h.nds;refine⟨⟨⟨h.is.ob.of_eq (hs.block A (h.lt A (by simp[aG])) (by simpa using n2)),ae h.is.ap (λk hk=>hs.block k (h.lt k (by simp[aG,hk])) (by simpa using n3 k hk)),?_⟩,h.nd,h.c5⟩,hs.wide (λk hk=>by simp only[aG,mem_cons,mem_append];exact zq1 (zq1 hk))⟩;show w'.ownsRow 0 _ 3 ov ow'.length (af ow');rw[hl];exact hr
theorem Fm.newRowA(h:Fm w A f av ov){ap':List Pr}(hl:ap'.length=f.ap.length)(hr:w'.ownsRow 0 182 3 av f.ap.length (af ap'))(hs:aq av.ownBlock.toList w av.ownBlock.toList w'):Fm w' A { f with ap:=ap' } av ov/\aq (aG A av ov) w (aG A av ov) w':=by
 obtain⟨n1,n2,n3⟩:=h.nds;refine⟨⟨⟨h.is.ob.of_eq (hs.block A (h.lt A (by simp[aG])) (by simpa using n1)),?_,ae h.is.ow (λk hk=>hs.block k (h.lt k (by simp[aG,hk])) (by simpa using λe=>n3 k e hk))⟩,h.nd,h.c5⟩,hs.wide (λk hk=>by simp only[aG,mem_cons,mem_append];exact zq1 (zq0 hk))⟩;show w'.ownsRow 0 _ 3 av ap'.length (af ap');rw[hl];exact hr
theorem wh(h:Fm w A f av ov)(ha:f.ap.length<=100000)(ho:f.ow.length<=100000)(kept gone:Nat):Calls prog 260 #[.pointer (some ⟨A,0,none⟩),.int .i64 kept,.int .i64 gone] w λe w'=>e=.returned (.tuple #[])/\Fm w' A (wH f kept gone) av ov/\aq (aG A av ov) w (aG A av ov) w':=by
 have H5:=ab h.c5;have cd:Hid (Fm w A { f with cl:=Aa kept gone f.cl 0 } av ov/\aq (aG A av ov) w (aG A av ov) w):=ab ⟨by simpa[Aa] using h,aq.refl _ _⟩;clear h;go_enter func260,ntmps260;go_wp2_with fail
 go_loopw [6] (λi wx=>∃(k:Nat),k<=5/\i=.int .i64 k/\Hid (Fm wx A { f with cl:=Aa kept gone f.cl k } av ov/\aq (aG A av ov) w (aG A av ov) wx)) (λi _=>5-(intOf i).toNat)
 case atStart=>exact⟨0,zq5 _,rfl,cd⟩
 case round =>
  clear cd;obtain⟨k,hk,rfl,hI⟩:=hrel;by_cases ar:k<5
  .have hd:decide ((k:Int)<(5:Int))=true:=(by simp;omega);have aS:=J8 (kept:=kept) (gone:=gone) (c:=f.cl) (k:=k) (by have:=uh H5;omega);obtain⟨c,hc⟩:∃c,c=f.cl.getD k 0:=⟨_,rfl⟩;have x:wr.cell? ⟨A,k,none⟩=some (.int .i64 (c:Int)):=by
    have:=(uh hI).1.is.cls ar;unfold fX at this;rw[this];show some (Value.int .i64 (((Aa kept gone f.cl k).getD k 0:Nat):Int))=_;rw[aS.2,<-hc]
   have fz:wr.frozen? ⟨A,k,none⟩=false:=ownsRow.frozenAt (uh hI).1.is.ob k;have cI:Hid (Aa kept gone f.cl (k+1)=(Aa kept gone f.cl k).set k (l8 kept gone c)):=ab (by rw[aS.1,<-hc]);have i1:(0:Int)<=(k:Int):=(by omega);have i2:(k:Int)<(5:Int):=(by omega);have HG:Hid ((Aa kept gone f.cl k).getD k 0=c):=ab (by rw[aS.2,<-hc]);clear aS hc;by_cases e1:c=gone
   .have b1:((c:Int)==(gone:Int))=true:=(by simp[e1]);have HE:Hid (l8 kept gone c=kept):=ab (if_pos e1);clear e1;go_wp2_with fail
    go_roundw
    case rel=>exact⟨k+1,by omega,by go_num,ab ⟨by rw[uh cI,uh HE];exact(uh hI).1.setCl k kept ar,(uh hI).2.setCell (p:=⟨A,k,none⟩) (zq0 (by simp[aG])) _⟩⟩
    case measure=>simp[intOf];omega
   .have b1:((c:Int)==(gone:Int))=false:=(by simp;omega);have HE:Hid (Aa kept gone f.cl (k+1)=Aa kept gone f.cl k):=ab (by
     rw[uh cI,show l8 kept gone c=c from if_neg e1];exact NR (by rw[PR];have:=uh H5;omega) (uh HG))
    clear e1;go_wp2_with fail
    go_roundw
    case rel=>exact⟨k+1,by omega,by go_num,ab ⟨by rw[uh HE];exact(uh hI).1,(uh hI).2⟩⟩
    case measure=>simp[intOf];omega
  .have hd:decide ((k:Int)<(5:Int))=false:=(by simp;omega);have fY:Aa kept gone f.cl k=f.cl.map (l8 kept gone):=by
    have:=uh H5;unfold Aa;rw[take_of_length_le (by omega),drop_eq_nil_of_le (by omega),append_nil]
   have hF:=(uh hI).1;rw[fY]at hF;have cI:=ab (uh hI).2;have c5:=hF.is.c5;have HRA:=ab (tY hF.is.ap ha kept gone);have HF:=ab hF;clear hF fY hI;obtain⟨aa,ac,jK,-,-⟩:=aj (uh HF).is.ap;obtain⟨oa,oc,fx,-,-⟩:=aj (uh HF).is.ow;subst jK;subst fx;go_wp2_with fail
   refine(uh HRA).mono ?_;rintro e w1 ⟨rfl,rQ,dc⟩;have jJ:=(uh HF).newRowA (ap':=f.ap.map (DM kept gone)) (by simp) rQ dc;have c6:=jJ.1.is.c6;have HRO:=ab (tY jJ.1.is.ow ho kept gone);have OC:=ab jJ;clear rQ dc jJ HRA c5;go_wp2_with fail
   refine(uh HRO).mono ?_;rintro e w2 ⟨rfl,ja,dF⟩;have oj:=(uh OC).1.newRow (ow':=f.ow.map (DM kept gone)) (by simp) ja dF;have uZ:=ab oj;clear ja dF oj HRO c6;go_wp2_with fail
   go_end0
   exact⟨rfl,(uh uZ).1,((uh cI).trans (uh OC).2).trans (uh uZ).2⟩
end
def qW(l:List Pr)(i k:Nat):List Pr:=((range k).filter (λj=>j != i)).map (λj=>l.getD j aE)
def Gv(l:List Pr)(i:Nat):List Pr:=qW l i l.length
theorem uu(l:List Pr)(i k:Nat):qW l i (k+1)=qW l i k++(if k=i then [] else [l.getD k aE]):=by
 unfold qW;rw[range_succ,filter_append,map_append];congr 1;by_cases h:k=i <;> simp[h]
theorem Sv(l:List Pr)(i k:Nat):(qW l i k).length<=k:=by
 unfold qW;rw[length_map];exact zq3 (length_filter_le _ _) (by simp)
section
variable {w:World} {A:Nat} {f:CF} {av ov:Value}
theorem wn(h:Fm w A f av ov)(ho:f.ow.length<=100000)(i:Nat):Calls prog 251 #[.pointer (some ⟨A,0,none⟩),.int .i64 i] w λe w'=>e=.returned (.tuple #[])/\∃ov',Fm w' A { f with ow:=Gv f.ow i } av ov'/\aq (aG A av ov) w (aG A av ov') w':=by
 obtain⟨i0,jN,fW,fy,fJ⟩:=info_parts infoPair;obtain⟨oa,oc,fx,-,-⟩:=aj h.is.ow;subst fx;have H:=ab h;have ss:Hid ((w.alloc (.cells #[] 182)).ownsRow w.heap.size 182 3 (.slice (some ⟨w.heap.size,0,none⟩) 0 0) 0 []/\Below w.heap.size w (w.alloc (.cells #[] 182))):=ab ⟨ownsRow_lit (base:=w.heap.size) (e:=182) (size:=3) w #[] 0 (zq4 _) (by simp[maxLen]) rfl,ah w _⟩;clear h;go_enter func251,ntmps251;go_wp2_with fail
 go_loopw [4,5] (λrv j wx=>∃(k:Nat),k<=f.ow.length/\j=.int .i64 k/\Hid (wx.ownsRow w.heap.size 182 3 rv (qW f.ow i k).length (af (qW f.ow i k))/\Below w.heap.size w wx)) (λ_ j _=>f.ow.length-(intOf j).toNat)
 case atStart=>exact⟨0,zq5 _,rfl,ss⟩
 case round =>
  clear ss;obtain⟨k,hk,rfl,hI⟩:=hrel;have hF:=(uh H).below (uh hI).2;have c6:=hF.is.c6;obtain⟨ra,rc,Jl,-,-⟩:=aj (uh hI).1;subst Jl;by_cases ar:k<f.ow.length
  .have hd:decide ((k:Int)<(f.ow.length:Int))=true:=(by simp;omega);by_cases hki:k=i
   .have b1:((k:Int) != (i:Int))=false:=(by simp[hki]);have HE:Hid (qW f.ow i (k+1)=qW f.ow i k):=ab (by rw[uu,if_pos hki,append_nil]);clear hki hF;go_wp2_with fail
    go_roundw
    case rel=>exact⟨k+1,by omega,by go_num,ab (by rw[uh HE];exact uh hI)⟩
    case measure=>simp[intOf];omega
   .have b1:((k:Int) != (i:Int))=true:=(by rw[bne_iff_ne];omega);obtain⟨p,hp⟩:∃p,p=f.ow.getD k aE:=⟨_,rfl⟩;have HE:Hid (qW f.ow i (k+1)=qW f.ow i k++[p]):=ab (by rw[uu,if_neg hki,<-hp]);obtain⟨g,cap,c9,-,-⟩:=aD hF.is.ow ar;simp only[Value.slice.injEq,true_and]at c9;obtain⟨rfl,rfl⟩:=c9;obtain⟨x0,x1,x2⟩:=aA hF.is.ow ar;rw[<-hp]at x0 x1 x2;have jc:=ab (uh hI).1;have db:=Sv f.ow i k;have Ly:=(uh hI).2.size;have i1:(0:Int)<=(k:Int):=(by omega);have i2:(k:Int)<(f.ow.length:Int):=(by omega);obtain⟨L,hL⟩:∃L,L=qW f.ow i k:=⟨_,rfl⟩;rw[<-hL]at HE jc db hI ⊢;clear hki hF hp hL;go_wp2_with (at_builtin;refine aQ _ rfl (.tmp 19) (.tmp 27) 177 rfl w.heap.size 182 i0 _ 3 24 underlying177 jN fW fy fJ rfl (by decide) _ L.length (af L) rfl ((uh jc).alloc _) ⟨_,0,none⟩ 1 [.int .i64 (p.k:Int),.int .i64 (p.l:Int),.int .i64 (p.r:Int)] rfl rfl (aM _ _ (by simp) [.int .i64 (p.k:Int),.int .i64 (p.l:Int),.int .i64 (p.r:Int)] _) (px p) (by omega) (by omega) (by simp;omega) ?_)
    intro g4 cap4 w4 gI dM iL;have HN:Hid (w4.ownsRow w.heap.size 182 3 (.slice (some ⟨g4,0,none⟩) (L.length+1) cap4) (qW f.ow i (k+1)).length (af (qW f.ow i (k+1)))/\Below w.heap.size w w4):=ab (by
     rw[uh HE,length_append,length_singleton,dZ];refine⟨gI,?_⟩;have hb:=(uh hI).2.alloc Ly (.cells #[.int .i64 (p.k:Int),.int .i64 (p.l:Int),.int .i64 (p.r:Int)] 182);exact hb.grown dM hb.size (λk hk=>((uh jc).lt k hk).1))
    clear gI dM iL;go_wp2_with fail
    go_roundw
    case rel=>exact⟨k+1,by omega,by go_num,HN⟩
    case measure=>simp[intOf];omega
  .have hd:decide ((k:Int)<(f.ow.length:Int))=false:=(by simp;omega);have jl:k=f.ow.length:=(by omega);have hs:aq (Value.slice oa f.ow.length oc).ownBlock.toList w (Value.slice ra (qW f.ow i k).length rc).ownBlock.toList wr:=(aq.ofBw (F:=(Value.slice oa f.ow.length oc).ownBlock.toList) (uh hI).2).foots (λj hj=>zq1 ((uh hI).1.lt j (by simpa using hj)).1);have hN:=(uh H).newOv (ow':=qW f.ow i k) hs (v':=.slice ra (qW f.ow i k).length rc) (λj hj=>by simpa using hj) (dB (uh hI).1 (zq5 _));have HN:Hid (Fm (wr.setCell ⟨A,6,none⟩ (.slice ra (qW f.ow i k).length rc)) A { f with ow:=Gv f.ow i } av (.slice ra (qW f.ow i k).length rc)/\aq (aG A av (.slice oa f.ow.length oc)) w (aG A av (.slice ra (qW f.ow i k).length rc)) (wr.setCell ⟨A,6,none⟩ (.slice ra (qW f.ow i k).length rc))):=ab (by
    have e:Gv f.ow i=qW f.ow i k:=(by unfold Gv;rw[jl]);rw[e];exact hN)
   have f6:=ownsRow.frozenAt hF.is.ob 6;clear hs hN jl hF;go_wp2_with fail
   go_end0
   exact⟨rfl,_,(uh HN).1,(uh HN).2⟩
end
def GY(l:List Pr)(c:Nat):Nat:=l.countP (λp=>decide (p.r=c))
theorem KA{l:List Pr}{k:Nat}(hk:k<l.length)(c:Nat):GY (l.take (k+1)) c=GY (l.take k) c+(if (l.getD k aE).r=c then 1 else 0):=by
 have e:l.getD k aE=l[k]:=iW hk;unfold GY;rw[take_add_one,getElem?_eq_getElem hk,countP_append,e];by_cases h:l[k].r=c <;> simp[h]
theorem Kz(l:List Pr)(c:Nat):GY l c<=l.length:=countP_le_length
section
variable {w:World} {A:Nat} {f:CF} {av ov:Value}
theorem KB(h:dT w A f av ov)(_ho:f.ow.length<=100000)(c:Nat):Calls prog 262 #[.pointer (some ⟨A,0,none⟩),.int .i64 c] w λe w'=>e=.returned (.int .i64 (GY f.ow c:Nat))/\Below w.heap.size w w':=by
 obtain⟨oa,oc,fx,hoc,hom⟩:=aj h.ow;subst fx;have c6:=h.c6;have H:=ab h;have GF:=ab (Below.refl w.heap.size w);clear h;go_enter func262,ntmps262;go_wp2_with fail
 go_loopw [5,13] (λn i wx=>∃(k:Nat),k<=f.ow.length/\n=.int .i64 (GY (f.ow.take k) c:Nat)/\i=.int .i64 k/\Hid (Below w.heap.size w wx)) (λ_ i _=>f.ow.length-(intOf i).toNat)
 case atStart=>exact⟨0,zq5 _,rfl,rfl,GF⟩
 case round =>
  clear GF;obtain⟨k,hk,rfl,rfl,hb⟩:=hrel;have lm:=Kz (f.ow.take k) c;have hlk:(f.ow.take k).length<=k:=by simp;omega
  by_cases ar:k<f.ow.length
  .have hd:decide ((k:Int)<(f.ow.length:Int))=true:=(by simp;omega);have hF:=(uh H).below (uh hb);obtain⟨g,cap,c9,-,-⟩:=aD hF.ow ar;simp only[Value.slice.injEq,true_and]at c9;obtain⟨rfl,rfl⟩:=c9;obtain⟨x0,x1,x2⟩:=aA hF.ow ar;have aS:=KA ar c;obtain⟨p,hp⟩:∃p,p=f.ow.getD k aE:=⟨_,rfl⟩;rw[<-hp]at x0 x1 x2 aS;obtain⟨n,hn⟩:∃n,n=GY (f.ow.take k) c:=⟨_,rfl⟩;rw[<-hn]at aS lm ⊢;have eU:Hid (Below w.heap.size w (wr.alloc (.cells #[.int .i64 (p.k:Int),.int .i64 (p.l:Int),.int .i64 (p.r:Int)] 182))):=ab ((uh hb).alloc (uh hb).size _);have i1:(0:Int)<=(k:Int):=(by omega);have i2:(k:Int)<(f.ow.length:Int):=(by omega);clear hF hp hn;by_cases e1:p.r=c
   .have b1:((p.r:Int)==(c:Int))=true:=(by simp[e1]);rw[if_pos e1]at aS;have cI:=ab aS;clear e1 aS;go_wp2_with fail
    go_roundw
    case rel=>exact⟨k+1,by omega,by rw[uh cI];go_num,by go_num,eU⟩
    case measure=>simp[intOf];omega
   .have b1:((p.r:Int)==(c:Int))=false:=(by simp;omega);rw[if_neg e1]at aS;have cI:=ab aS;clear e1 aS;go_wp2_with fail
    go_roundw
    case rel=>exact⟨k+1,by omega,by rw[uh cI];rfl,by go_num,eU⟩
    case measure=>simp[intOf];omega
  .have hd:decide ((k:Int)<(f.ow.length:Int))=false:=(by simp;omega);have HE:Hid (GY (f.ow.take k) c=GY f.ow c):=ab (by rw[take_of_length_le (by omega)]);go_wp2_with fail
   go_ret;exact⟨bj (by rw[uh HE]),uh hb⟩
theorem yp(a b c d e:Value)(w:World):(Instr.index 176 (.agg #[a,b,c,d,e]) (.int .i64 0)).run prog w=.ok a w:=by kernel_rfl
theorem yq(a b c d e:Value)(w:World):(Instr.index 176 (.agg #[a,b,c,d,e]) (.int .i64 1)).run prog w=.ok b w:=by kernel_rfl
theorem yr(a b c d e:Value)(w:World):(Instr.index 176 (.agg #[a,b,c,d,e]) (.int .i64 2)).run prog w=.ok c w:=by kernel_rfl
theorem yt(a b c d e:Value)(w:World):(Instr.index 176 (.agg #[a,b,c,d,e]) (.int .i64 3)).run prog w=.ok d w:=by kernel_rfl
theorem yu(a b c d e:Value)(w:World):(Instr.index 176 (.agg #[a,b,c,d,e]) (.int .i64 4)).run prog w=.ok e w:=by kernel_rfl
def nmB(f:CF)(c:Nat):Bool:=decide (f.cl.getD 0 0=c)||decide (f.cl.getD 1 0=c)||decide (f.cl.getD 2 0=c)||decide (f.cl.getD 3 0=c)||decide (f.cl.getD 4 0=c)
theorem IA(h:dT w A f av ov)(c:Nat):Calls prog 261 #[.pointer (some ⟨A,0,none⟩),.int .i64 c] w λe w'=>e=.returned (.bool (nmB f c))/\w'=w:=by
 have x0:=h.cls (i:=0) (by omega);have x1:=h.cls (i:=1) (by omega);have x2:=h.cls (i:=2) (by omega);have x3:=h.cls (i:=3) (by omega);have x4:=h.cls (i:=4) (by omega);unfold fX at x0 x1 x2 x3 x4;unfold nmB;generalize f.cl.getD 0 0=y0 at *;generalize f.cl.getD 1 0=y1 at *;generalize f.cl.getD 2 0=y2 at *;generalize f.cl.getD 3 0=y3 at *;generalize f.cl.getD 4 0=y4 at *;clear h;have j0:=yp (.int .i64 (y0:Int)) (.int .i64 (y1:Int)) (.int .i64 (y2:Int)) (.int .i64 (y3:Int)) (.int .i64 (y4:Int));have j1:=yq (.int .i64 (y0:Int)) (.int .i64 (y1:Int)) (.int .i64 (y2:Int)) (.int .i64 (y3:Int)) (.int .i64 (y4:Int));have j2:=yr (.int .i64 (y0:Int)) (.int .i64 (y1:Int)) (.int .i64 (y2:Int)) (.int .i64 (y3:Int)) (.int .i64 (y4:Int));have j3:=yt (.int .i64 (y0:Int)) (.int .i64 (y1:Int)) (.int .i64 (y2:Int)) (.int .i64 (y3:Int)) (.int .i64 (y4:Int));have j4:=yu (.int .i64 (y0:Int)) (.int .i64 (y1:Int)) (.int .i64 (y2:Int)) (.int .i64 (y3:Int)) (.int .i64 (y4:Int));obtain⟨b,hb⟩:∃b,b=(decide (y0=c)||decide (y1=c)||decide (y2=c)||decide (y3=c)||decide (y4=c)):=⟨_,rfl⟩;rw[<-hb];have HB:=ab hb;clear hb;go_enter func261,ntmps261;go_wp2_with fail
 go_loop [11] (λi=>∃(k:Nat),k<=5/\i=.int .i64 k/\Hid ((0<k->y0≠c)/\(1<k->y1≠c)/\(2<k->y2≠c)/\(3<k->y3≠c)/\(4<k->y4≠c))) (λi=>5-(intOf i).toNat)
 case atStart=>exact⟨0,zq5 _,rfl,ab ⟨by omega,by omega,by omega,by omega,by omega⟩⟩
 case round =>
  obtain⟨k,hk,rfl,hn⟩:=hrel;have th:k=0\/k=1\/k=2\/k=3\/k=4\/k=5:=by omega
  rcases th with rfl|rfl|rfl|rfl|rfl|rfl
  .by_cases e1:y0=c
   .have b1:((y0:Int)==(c:Int))=true:=(by simp[e1]);have HE:Hid (b=true):=ab (by rw[uh HB];simp[e1]);clear e1;go_wp2_with fail
    go_ret;exact⟨aB (uh HE).symm,rfl⟩
   .have b1:((y0:Int)==(c:Int))=false:=(by simp;omega);have HN:Hid ((0<1->y0≠c)/\(1<1->y1≠c)/\(2<1->y2≠c)/\(3<1->y3≠c)/\(4<1->y4≠c)):=ab (by
     obtain⟨h0,h1,h2,h3,h4⟩:=uh hn;refine⟨?_,?_,?_,?_,?_⟩ <;> intro hh <;> first|exact e1|omega|(apply h0;omega)|(apply h1;omega)|(apply h2;omega)|(apply h3;omega)|(apply h4;omega))
    clear e1;go_wp2_with fail
    go_round
    case rel=>exact⟨1,by omega,by go_num,HN⟩
    case measure=>simp[intOf]
  .by_cases e1:y1=c
   .have b1:((y1:Int)==(c:Int))=true:=(by simp[e1]);have HE:Hid (b=true):=ab (by rw[uh HB];simp[e1]);clear e1;go_wp2_with fail
    go_ret;exact⟨aB (uh HE).symm,rfl⟩
   .have b1:((y1:Int)==(c:Int))=false:=(by simp;omega);have HN:Hid ((0<2->y0≠c)/\(1<2->y1≠c)/\(2<2->y2≠c)/\(3<2->y3≠c)/\(4<2->y4≠c)):=ab (by
     obtain⟨h0,h1,h2,h3,h4⟩:=uh hn;refine⟨?_,?_,?_,?_,?_⟩ <;> intro hh <;> first|exact e1|omega|(apply h0;omega)|(apply h1;omega)|(apply h2;omega)|(apply h3;omega)|(apply h4;omega))
    clear e1;go_wp2_with fail
    go_round
    case rel=>exact⟨2,by omega,by go_num,HN⟩
    case measure=>simp[intOf]
  .by_cases e1:y2=c
   .have b1:((y2:Int)==(c:Int))=true:=(by simp[e1]);have HE:Hid (b=true):=ab (by rw[uh HB];simp[e1]);clear e1;go_wp2_with fail
    go_ret;exact⟨aB (uh HE).symm,rfl⟩
   .have b1:((y2:Int)==(c:Int))=false:=(by simp;omega);have HN:Hid ((0<3->y0≠c)/\(1<3->y1≠c)/\(2<3->y2≠c)/\(3<3->y3≠c)/\(4<3->y4≠c)):=ab (by
     obtain⟨h0,h1,h2,h3,h4⟩:=uh hn;refine⟨?_,?_,?_,?_,?_⟩ <;> intro hh <;> first|exact e1|omega|(apply h0;omega)|(apply h1;omega)|(apply h2;omega)|(apply h3;omega)|(apply h4;omega))
    clear e1;go_wp2_with fail
    go_round
    case rel=>exact⟨3,by omega,by go_num,HN⟩
    case measure=>simp[intOf]
  .by_cases e1:y3=c
   .have b1:((y3:Int)==(c:Int))=true:=(by simp[e1]);have HE:Hid (b=true):=ab (by rw[uh HB];simp[e1]);clear e1;go_wp2_with fail
    go_ret;exact⟨aB (uh HE).symm,rfl⟩
   .have b1:((y3:Int)==(c:Int))=false:=(by simp;omega);have HN:Hid ((0<4->y0≠c)/\(1<4->y1≠c)/\(2<4->y2≠c)/\(3<4->y3≠c)/\(4<4->y4≠c)):=ab (by
     obtain⟨h0,h1,h2,h3,h4⟩:=uh hn;refine⟨?_,?_,?_,?_,?_⟩ <;> intro hh <;> first|exact e1|omega|(apply h0;omega)|(apply h1;omega)|(apply h2;omega)|(apply h3;omega)|(apply h4;omega))
    clear e1;go_wp2_with fail
    go_round
    case rel=>exact⟨4,by omega,by go_num,HN⟩
    case measure=>simp[intOf]
  .by_cases e1:y4=c
   .have b1:((y4:Int)==(c:Int))=true:=(by simp[e1]);have HE:Hid (b=true):=ab (by rw[uh HB];simp[e1]);clear e1;go_wp2_with fail
    go_ret;exact⟨aB (uh HE).symm,rfl⟩
   .have b1:((y4:Int)==(c:Int))=false:=(by simp;omega);have HN:Hid ((0<5->y0≠c)/\(1<5->y1≠c)/\(2<5->y2≠c)/\(3<5->y3≠c)/\(4<5->y4≠c)):=ab (by
     obtain⟨h0,h1,h2,h3,h4⟩:=uh hn;refine⟨?_,?_,?_,?_,?_⟩ <;> intro hh <;> first|exact e1|omega|(apply h0;omega)|(apply h1;omega)|(apply h2;omega)|(apply h3;omega)|(apply h4;omega))
    clear e1;go_wp2_with fail
    go_round
    case rel=>exact⟨5,by omega,by go_num,HN⟩
    case measure=>simp[intOf]
  .have HE:Hid (b=false):=ab (by
    obtain⟨h0,h1,h2,h3,h4⟩:=uh hn;rw[uh HB];simp[h0,h1,h2,h3,h4])
   go_wp2_with fail
   go_ret;exact⟨aB (uh HE).symm,rfl⟩
end
