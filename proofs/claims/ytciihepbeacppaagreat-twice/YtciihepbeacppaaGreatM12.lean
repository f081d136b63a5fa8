import Derived.Test.YtciihepbeacppaaGreatM11
import Derived.Laws.StructEq
set_option maxRecDepth 100000
set_option maxHeartbeats 0
namespace Go.Proofs.YtciihepbeacppaaGreat
open Tryz Go.RowKit List World Below
set_option linter.unusedVariables false
def Ch(ms:List Nat):List Value:=(ms++replicate (24-ms.length) 0).map (λn=>Value.int .i64 (n:Nat))++((range 24).map (λc=>Value.int .i64 (Ar ms c:Nat))++[Value.int .i64 (ms.length:Nat)])
theorem DA{ms:List Nat}(h:ms.length<=24){k:Nat}(hk:k<24):(Ch ms)[k]?=some (.int .i64 ((ms.getD k 0:Nat):Int)):=by
 unfold Ch;rw[getElem?_append_left (by simp;omega),getElem?_map,getD_eq_getElem?_getD];by_cases hl:k<ms.length
 .rw[getElem?_append_left hl,getElem?_eq_getElem hl];rfl
 .rw[getElem?_append_right (by omega),getElem?_replicate,if_pos (by omega),getElem?_eq_none (by omega)];rfl
theorem tQ{ms:List Nat}(h:ms.length<=24){c:Nat}(hc:c<24):(Ch ms)[24+c]?=some (.int .i64 ((Ar ms c:Nat):Int)):=by
 unfold Ch;have e:((ms++replicate (24-ms.length) 0).map (λn=>Value.int .i64 ((n:Nat):Int))).length=24:=by simp;omega
 rw[getElem?_append_right (by omega),e,Nat.add_sub_cancel_left,getElem?_append_left (by simpa using hc),getElem?_map,getElem?_range hc];rfl
theorem tP{ms:List Nat}(h:ms.length<=24):(Ch ms)[48]?=some (.int .i64 ((ms.length:Nat):Int)):=by
 unfold Ch;have e:((ms++replicate (24-ms.length) 0).map (λn=>Value.int .i64 ((n:Nat):Int))).length=24:=by simp;omega
 rw[getElem?_append_right (by omega),e,getElem?_append_right (by simp)];simp
theorem Dz{ms:List Nat}(h:ms.length<=24):(Ch ms).length=49:=by unfold Ch;simp;omega
theorem Qj{ms:List Nat}{c d:Nat}(hc:c ∉ ms):Ar (ms++[c]) d=if d=c then ms.length+1 else Ar ms d:=by
 unfold Ar;by_cases hd:d=c
 .subst hd;rw[if_pos (by simp),if_pos rfl,idxOf_append,if_neg hc];simp
 .rw[if_neg hd];by_cases hm:d∈ms
  .rw[if_pos (by simp[hm]),if_pos hm,idxOf_append,if_pos hm]
  .rw[if_neg (by simp[hm,hd]),if_neg hm]
theorem XD{ms:List Nat}{c:Nat}(hl:ms.length<24)(hc:c<24)(hn:c ∉ ms):(((Ch ms).set ms.length (.int .i64 (c:Int))).set 48 (.int .i64 ((ms.length+1:Nat):Int))).set (24+c) (.int .i64 ((ms.length+1:Nat):Int))=Ch (ms++[c]):=by
 refine ext_getElem? (λj=>?_);have l1:=Dz (ms:=ms) (by omega);have l2:=Dz (ms:=ms++[c]) (by simp;omega);simp only[getElem?_set,length_set,l1];by_cases hj:j<49
 .by_cases h1:j<24
  .rw[DA (ms:=ms++[c]) (by simp;omega) h1,if_neg (by omega),if_neg (by omega)];by_cases h2:ms.length=j
   .subst h2;rw[if_pos rfl,if_pos (by omega),getD_eq_getElem?_getD,getElem?_append_right (zq4 _)];simp
   .rw[if_neg h2,DA (ms:=ms) (by omega) h1];have e:ms.getD j 0=(ms++[c]).getD j 0:=by
     rw[getD_eq_getElem?_getD,getD_eq_getElem?_getD];by_cases h3:j<ms.length
     .rw[getElem?_append_left h3]
     .rw[getElem?_eq_none (by omega),getElem?_eq_none (by simp;omega)]
    rw[e]
  .by_cases h2:j=48
   .subst h2;rw[tP (ms:=ms++[c]) (by simp;omega),if_neg (by omega),if_pos rfl,if_pos (by omega)];simp
   .obtain⟨d,hd⟩:∃d,j=24+d:=⟨j-24,by omega⟩;subst hd;rw[tQ (ms:=ms++[c]) (by simp;omega) (by omega),Qj hn];by_cases h3:d=c
    .subst h3;rw[if_pos rfl,if_pos (by omega),if_pos rfl]
    .rw[if_neg (by omega),if_neg (by omega),if_neg (by omega),tQ (ms:=ms) (by omega) (by omega),if_neg h3]
 .rw[if_neg (by omega),if_neg (by omega),if_neg (by omega),getElem?_eq_none (by omega),getElem?_eq_none (by omega)]
structure Nu(w:World)(N:Nat)(ms:List Nat):Prop where
 ob:Ob w 290 49 N (Ch ms)
 ok:dW ms
section
variable {w w':World} {N:Nat} {ms:List Nat}
theorem Nu.of_eq(h:Nu w N ms)(he:w'.heap[N]?=w.heap[N]?):Nu w' N ms:=⟨h.ob.of_eq he,h.ok⟩
theorem Nu.ltN(h:Nu w N ms):N<w.heap.size:=(ownsRow.lt h.ob N rfl).2
theorem Nu.below(h:Nu w N ms)(hb:Below w.heap.size w w'):Nu w' N ms:=h.of_eq (hb.block N h.ltN)
theorem Nu.old(h:Nu w N ms){k:Nat}(hk:k<24):w.cell? ⟨N,k,none⟩=some (.int .i64 ((ms.getD k 0:Nat):Int)):=(ownsRow.cellAt h.ob k (by omega)).trans (DA h.ok.len hk)
theorem Nu.fresh(h:Nu w N ms){c:Nat}(hc:c<24):w.cell? ⟨N,24+c,none⟩=some (.int .i64 ((Ar ms c:Nat):Int)):=(ownsRow.cellAt h.ob (24+c) (by omega)).trans (tQ h.ok.len hc)
theorem Nu.count(h:Nu w N ms):w.cell? ⟨N,48,none⟩=some (.int .i64 ((ms.length:Nat):Int)):=(ownsRow.cellAt h.ob 48 (by omega)).trans (tP h.ok.len)
theorem Nu.frz(h:Nu w N ms)(j:Nat):w.frozen? ⟨N,j,none⟩=false:=ownsRow.frozenAt h.ob j
theorem tK(h:Nu w N ms){c:Nat}(hc:c<24):Calls prog 223 #[.pointer (some ⟨N,0,none⟩),.int .i64 c] w λe w'=>e=.returned (.tuple #[])/\Nu w' N (ii ms c)/\aq [N] w [N] w':=by
 have lM:=h.fresh hc;have OX:=h.count;have hz:=h.frz;by_cases hm:c∈ms
 .have WO:0<Ar ms c:=by unfold Ar;rw[if_pos hm];omega
  obtain⟨x,hx⟩:∃x,x=Ar ms c:=⟨_,rfl⟩;rw[<-hx]at lM WO;have hd:decide ((0:Int)<(x:Int))=true:=by simp;omega
  have HE:Hid (ii ms c=ms):=ab (by unfold ii;rw[if_pos hm]);have H:=ab h;clear h hx hm hz OX;go_enter func223,ntmps223;go_wp2_with fail
  refine bodyPost_ret (v:=.tuple #[]) (by simp[results,Tryz.f223]) rfl ?_;exact⟨rfl,by rw[uh HE];exact uh H,aq.refl _ _⟩
 .have hx:Ar ms c=0:=by unfold Ar;rw[if_neg hm]
  rw[hx]at lM;have hl:ms.length<24:=by
   have h1:=(h.ok.me hc).len;unfold ii at h1;rw[if_neg hm,length_append,length_singleton]at h1;omega
  have o1:=h.ob.stored ms.length (.int .i64 (c:Int));have o2:=o1.stored 48 (.int .i64 ((ms.length+1:Nat):Int));have o3:=o2.stored (24+c) (.int .i64 ((ms.length+1:Nat):Int));rw[XD hl hc hm]at o3;have c2:=ownsRow.cellAt o1 48 (by omega);rw[getElem?_set,if_neg (by omega),tP (by omega)]at c2;have f2:=ownsRow.frozenAt o1 48;have c3:=ownsRow.cellAt o2 48 (by omega);rw[getElem?_set,if_pos rfl,if_pos (by rw[length_set,Dz (by omega)];omega)]at c3;obtain⟨⟨u4,c4⟩,f4⟩:=o2.some (j:=24+c) (by omega);obtain⟨⟨u5,c5⟩,f5⟩:=h.ob.some (j:=ms.length) (by omega);have cI:Hid (aq [N] w [N] (((w.setCell ⟨N,ms.length,none⟩ (.int .i64 (c:Int))).setCell ⟨N,48,none⟩ (.int .i64 ((ms.length+1:Nat):Int))).setCell ⟨N,24+c,none⟩ (.int .i64 ((ms.length+1:Nat):Int)))):=ab ((((aq.refl [N] w).setCell (p:=⟨N,ms.length,none⟩) (zq0 (by simp)) _).setCell (p:=⟨N,48,none⟩) (zq0 (by simp)) _).setCell (p:=⟨N,24+c,none⟩) (zq0 (by simp)) _);have HN:Hid (Nu (((w.setCell ⟨N,ms.length,none⟩ (.int .i64 (c:Int))).setCell ⟨N,48,none⟩ (.int .i64 ((ms.length+1:Nat):Int))).setCell ⟨N,24+c,none⟩ (.int .i64 ((ms.length+1:Nat):Int))) N (ii ms c)):=ab (by
   have e:ii ms c=ms++[c]:=(by unfold ii;rw[if_neg hm]);have h1:=h.ok.me hc;rw[e]at h1 ⊢;exact⟨o3,h1⟩)
  obtain⟨n,hn⟩:∃n,n=ms.length:=⟨_,rfl⟩;rw[<-hn]at OX hl c2 f2 c3 c4 f4 c5 f5 cI HN;rw[show((n+1:Nat):Int)=(n:Int)+1 by omega]at c3 c4 f4 cI HN;have hd:decide ((0:Int)<0)=false:=by decide
  clear o1 o2 o3 h hx hm hn hz;go_enter func223,ntmps223;go_wp2_with fail
  go_region
  go_wp2_with fail
  go_region
  go_wp2_with fail
  go_end0
  exact⟨rfl,(uh HN).of_eq rfl,(uh cI).drew.drew⟩
end
section
variable {w:World} {A N:Nat} {f:CF} {av ov:Value} {ms:List Nat}
theorem ui(hF:dT w A f av ov)(hN:Nu w N ms)(hd:∀k∈aG A av ov,k≠N)(hO:∀p∈f.ow,p.l<24/\p.r<24){k0:Nat}(Zx:k0<=24):Calls prog 224 #[.pointer (some ⟨A,0,none⟩),.pointer (some ⟨N,0,none⟩),.int .i64 k0] w λe w'=>e=.returned (.tuple #[])/\Nu w' N (mX f 25 k0 ms)/\aq [N] w [N] w':=by
 have HF:=ab hF;have HD:=ab hd;have HO:=ab hO;obtain⟨R,hR⟩:∃R,R=mX f 25 k0 ms:=⟨_,rfl⟩;have cd:Hid (Nu w N ms/\mX f 25 k0 ms=R/\aq [N] w [N] w):=ab ⟨hN,hR.symm,aq.refl _ _⟩;rw[<-hR];clear hF hN hd hO hR;go_enter func224,ntmps224;go_wp2_with fail
 go_loopw [6] (λi wx=>∃(k n:Nat) (ml:List Nat),k<=24/\24<n+k/\i=.int .i64 k/\Hid (Nu wx N ml/\mX f n k ml=R/\aq [N] w [N] wx)) (λi _=>25-(intOf i).toNat)
 case atStart=>exact⟨k0,25,ms,Zx,by omega,rfl,cd⟩
 case round =>
  clear cd;obtain⟨k,n,ml,hk,hn,rfl,hI⟩:=hrel;have OX:=(uh hI).1.count;have et:=(uh hI).1.ok.len;by_cases ar:k<ml.length
  .have hd:decide ((k:Int)<(ml.length:Int))=true:=(by simp;omega);have gG:=(uh hI).1.old (k:=k) (by omega);have aco:k<24:=(by omega);obtain⟨n',rfl⟩:∃n',n=n'+1:=⟨n-1,by omega⟩;have aS:mX f n' (k+1) (xj f k ml)=R:=by
    have:=(uh hI).2.1;unfold mX at this;rwa [if_pos ar]at this
   have Qt:=(uh HF).of_eq (w':=wr) (λj hj=>(uh hI).2.2.block j ((uh HF).lt j hj) (by simpa using uh HD j hj));have HB:=ab (cB (ml.getD k 0) Qt);have cI:=ab aS;have Pz:Hid (xj f k ml=match er f.ow (ml.getD k 0) with|some i=>ii ml (f.ow.getD i aE).r|none=>ml):=ab rfl;obtain⟨c,hc⟩:∃c,c=ml.getD k 0:=⟨_,rfl⟩;rw[<-hc]at gG HB Pz;have HFr:=ab Qt;have HN:=ab (uh hI).1;have HP:=ab (uh hI).2.2;obtain⟨L,hL⟩:∃L,L=ml.length:=⟨_,rfl⟩;rw[<-hL]at OX hd ar;clear aS Qt hc hI hL et;go_wp2_with fail
   refine(uh HB).mono ?_;rintro e w1 ⟨rfl,rfl⟩;have hg:=qt (er f.ow c);cases hb:er f.ow c with
   |none =>
    rw[hb]at hg Pz;have cj:Hid (xj f k ml=ml):=ab (uh Pz);clear Pz;go_wp2_with fail
    go_roundw
    case rel=>exact⟨k+1,n',ml,by omega,by omega,by go_num,ab ⟨uh HN,by have:=uh cI;rw[uh cj]at this;exact this,uh HP⟩⟩
    case measure=>simp[intOf];omega
   |some i =>
    rw[hb]at hg Pz;have cj:Hid (xj f k ml=ii ml (f.ow.getD i aE).r):=ab (uh Pz);clear Pz;obtain⟨hi,-⟩:=gg hb;have c6:=(uh HFr).c6;obtain⟨g,cap,c9,-,-⟩:=aD (uh HFr).ow hi;subst c9;obtain⟨x0,x1,x2⟩:=aA (uh HFr).ow hi;have uQ:=(uh HO (f.ow.getD i aE) (dl hi)).2;obtain⟨p,hp⟩:∃p,p=f.ow.getD i aE:=⟨_,rfl⟩;rw[<-hp]at x0 x1 x2 uQ cj;have HM:=ab (tK (uh HN) uQ);rw[show eK (some i)=(i:Int) from rfl]at hg ⊢;have i1:(0:Int)<=(i:Int):=(by omega);have i2:(i:Int)<(f.ow.length:Int):=(by omega);clear hp hb;go_wp2_with fail
    refine(uh HM).mono ?_;rintro e w2 ⟨rfl,mS,dF⟩;have BQ:=ab mS;have HP2:=ab ((uh HP).trans dF);clear mS dF;go_wp2_with fail
    go_roundw
    case rel=>exact⟨k+1,n',_,by omega,by omega,by go_num,ab ⟨uh BQ,by have:=uh cI;rw[uh cj]at this;exact this,uh HP2⟩⟩
    case measure=>simp[intOf];omega
  .have hd:decide ((k:Int)<(ml.length:Int))=false:=(by simp;omega);have HE:Hid (ml=R):=ab (by
    have:=(uh hI).2.1;cases n with
    |zero=>exact this
    |succ n=>unfold mX at this;rwa [if_neg ar]at this)
   go_wp2_with fail
   go_end0
   exact⟨rfl,by rw[<-uh HE];exact(uh hI).1,(uh hI).2.2⟩
end
section
variable {w:World} {N:Nat} {v:Value} {l:List Pr} {ms:List Nat}
theorem vU(h:w.ownsRow 0 182 3 v l.length (af l))(hN:Nu w N ms)(hv:v.ownBlock≠some N)(hm:∀p∈l,p.l∈ms/\p.r∈ms)(hl:l.length<=100000):
  Calls prog 225 #[.pointer (some ⟨N,0,none⟩),v] w λe w'=>e=.returned (.tuple #[])/\w'.ownsRow 0 182 3 v l.length (af (l.map (wO ms)))/\aq v.ownBlock.toList w v.ownBlock.toList w':=by
 obtain⟨va,vc,Io,Mv,QX⟩:=aj h;subst Io;have ss:Hid (w.ownsRow 0 182 3 (.slice va l.length vc) l.length (af (bF (wO ms) l 0))/\aq (Value.slice va l.length vc).ownBlock.toList w (Value.slice va l.length vc).ownBlock.toList w):=ab ⟨by simpa[bF] using h,aq.refl _ _⟩;have HN:=ab hN;have HV:=ab hv;have HM:=ab hm;clear h hN hv hm;go_enter func225,ntmps225;go_wp2_with fail
 go_loopw [4] (λi wx=>∃(k:Nat),k<=l.length/\i=.int .i64 k/\Hid (wx.ownsRow 0 182 3 (.slice va l.length vc) l.length (af (bF (wO ms) l k))/\aq (Value.slice va l.length vc).ownBlock.toList w (Value.slice va l.length vc).ownBlock.toList wx)) (λi _=>l.length-(intOf i).toNat)
 case atStart=>exact⟨0,zq5 _,rfl,ss⟩
 case round =>
  clear ss;obtain⟨k,hk,rfl,hI⟩:=hrel;by_cases ar:k<l.length
  .have hd:decide ((k:Int)<(l.length:Int))=true:=(by simp;omega);obtain⟨g,cap,c9,-,-,-⟩:=bT (uh hI).1 (by omega);simp only[Value.slice.injEq,true_and]at c9;obtain⟨rfl,rfl⟩:=c9;have hgN:g≠N:=λe=>uh HV (by rw[e];rfl);have Qv:Nu wr N ms:=(uh HN).of_eq ((uh hI).2.block N (uh HN).ltN (by simpa[Value.ownBlock] using λe=>hgN e.symm));have hK:=jS (g:=wO ms) ar;have hr:=(uh hI).1;have db:=iQ (wO ms) l k;have Ij:wr.ownsRow 0 182 3 (.slice (some ⟨g,0,none⟩) (bF (wO ms) l k).length vc) (bF (wO ms) l k).length (af (bF (wO ms) l k)):=(by rw[db];exact hr);obtain⟨-,x1,x2⟩:=aA Ij (i:=k) (by omega);obtain⟨lr,uQ⟩:=uh HM (l.getD k aE) (dl ar);have aS:=jT (g:=wO ms) ar;rw[hK]at x1 x2;obtain⟨p,hp⟩:∃p,p=l.getD k aE:=⟨_,rfl⟩;rw[<-hp]at x1 x2 lr uQ aS hK;have f1:=hr.frozenAt (k*3+1);have f2:=hr.frozenAt (k*3+2);have q1:=Qv.fresh (Qv.ok.2 p.l lr);have q2:=Qv.fresh (Qv.ok.2 p.r uQ);have e1:Ar ms p.l=ms.idxOf p.l+1:=(by unfold Ar;rw[if_pos lr]);have e2:Ar ms p.r=ms.idxOf p.r+1:=(by unfold Ar;rw[if_pos uQ]);rw[e1]at q1;rw[e2]at q2;have b1:=lP Qv.ok lr;have b2:=lP Qv.ok uQ;have b3:=Qv.ok.2 p.l lr;have b4:=Qv.ok.2 p.r uQ;obtain⟨x,hx⟩:∃x,x=ms.idxOf p.l:=⟨_,rfl⟩;obtain⟨y,hy⟩:∃y,y=ms.idxOf p.r:=⟨_,rfl⟩;rw[<-hx]at q1 b1;rw[<-hy]at q2 b2;rw[show((x+1:Nat):Int)=(x:Int)+1 by omega]at q1;rw[show((y+1:Nat):Int)=(y:Int)+1 by omega]at q2;have i1:(0:Int)<=(k:Int):=(by omega);have i2:(k:Int)<(l.length:Int):=(by omega);have s1:(wr.setCell ⟨g,k*3+1,none⟩ (.int .i64 (x:Int))).ownsRow 0 182 3 (.slice (some ⟨g,0,none⟩) l.length vc) l.length (af ((bF (wO ms) l k).set k ⟨p.k,x,p.r⟩)):=by
    have:=(hr.stored (k*3+1) (.int .i64 (x:Int))).1;rw[iy (by omega),hK]at this;exact this
   have s2:((wr.setCell ⟨g,k*3+1,none⟩ (.int .i64 (x:Int))).setCell ⟨g,k*3+2,none⟩ (.int .i64 (y:Int))).ownsRow 0 182 3 (.slice (some ⟨g,0,none⟩) l.length vc) l.length (af (bF (wO ms) l (k+1))):=by
    have:=(s1.stored (k*3+2) (.int .i64 (y:Int))).1;rw[ee (by simp;omega)]at this;rw[aS];have e:wO ms p=⟨p.k,x,y⟩:=(by unfold wO;rw[<-hx,<-hy]);rw[e];simpa[db,ar] using this
   have y2:(wr.setCell ⟨g,k*3+1,none⟩ (.int .i64 (x:Int))).cell? ⟨g,k*3+2,none⟩=some (.int .i64 (p.r:Int)):=by
    rw[cell?_setCell_other _ _ _ _ (by simp)];exact x2
   have z2:=s1.frozenAt (k*3+2);have q2':(wr.setCell ⟨g,k*3+1,none⟩ (.int .i64 (x:Int))).cell? ⟨N,24+p.r,none⟩=some (.int .i64 ((y:Int)+1)):=by
    rw[cell?_setCell_other _ _ _ _ (by simp only[ne_eq,Addr.mk.injEq,not_and];intro e;exact absurd e hgN)];exact q2
   have HS:=ab s2;have cI:Hid (aq (Value.slice (some ⟨g,0,none⟩) l.length vc).ownBlock.toList w (Value.slice (some ⟨g,0,none⟩) l.length vc).ownBlock.toList ((wr.setCell ⟨g,k*3+1,none⟩ (.int .i64 (x:Int))).setCell ⟨g,k*3+2,none⟩ (.int .i64 (y:Int)))):=ab (((uh hI).2.setCell (p:=⟨g,k*3+1,none⟩) (zq0 (by simp[Value.ownBlock])) _).setCell (p:=⟨g,k*3+2,none⟩) (zq0 (by simp[Value.ownBlock])) _);clear hr Ij hK db hp s1 s2 hI aS Qv lr uQ e1 e2 hx hy hgN;go_wp2_with fail
   go_region
   go_wp2_with fail
   go_region
   go_wp2_with fail
   go_roundw
   case rel=>exact⟨k+1,by omega,by go_num,ab ⟨(uh HS).drew.drew,(uh cI).drew.drew⟩⟩
   case measure=>simp[intOf];omega
  .have hd:decide ((k:Int)<(l.length:Int))=false:=(by simp;omega);have HE:Hid (bF (wO ms) l k=l.map (wO ms)):=ab (tG (by omega));go_wp2_with fail
   go_end0
   exact⟨rfl,by rw[<-uh HE];exact(uh hI).1,(uh hI).2⟩
end
def GU(g:Nat->Nat)(c:List Nat)(k:Nat):List Nat:=(c.take k).map g++c.drop k
theorem J7{g:Nat->Nat}{c:List Nat}{k:Nat}(hk:k<c.length):GU g c (k+1)=(GU g c k).set k (g (c.getD k 0))/\(GU g c k).getD k 0=c.getD k 0:=by
 unfold GU;have e:c.drop k=c[k]::c.drop (k+1):=drop_eq_getElem_cons hk;have e0:c.getD k 0=c[k]:=by simp[hk]
 have e2:(c.take (k+1)).map g=(c.take k).map g++[g c[k]]:=by
  rw[take_add_one,getElem?_eq_getElem hk,map_append];rfl
 have e3:((c.take k).map g).length=k:=by simp;omega
 refine⟨?_,?_⟩
 .rw[e2,e,set_append_right _ _ (by omega),e3,Nat.sub_self,set_cons_zero,append_assoc,e0];rfl
 .rw[getD_eq_getElem?_getD,getElem?_append_right (by omega),e3,Nat.sub_self,e,e0];rfl
theorem iJ{α:Type}{g:α->Pr->α}{a:α}{l:List Pr}{k:Nat}(hk:k<l.length):(l.take (k+1)).foldl g a=g ((l.take k).foldl g a) (l.getD k aE):=by
 rw[iW hk,take_add_one,getElem?_eq_getElem hk,foldl_append];rfl
theorem XC:Ch []=replicate 49 (Value.int .i64 0):=rfl
theorem XB(w:World):Nu (w.alloc (.cells (Ch []).toArray 290)) w.heap.size [] :=
 ⟨ownsRow_lit (base:=0) (e:=290) (size:=49) w (Ch []).toArray 1 (zq5 _) (by simp[maxLen]) rfl,dW.nil⟩
section
variable {w:World} {A:Nat} {f:CF} {av ov:Value}
theorem zc(h:Fm w A f av ov)(hO:au f)(hl:∀p∈f.ap,p.l∈dO f/\p.r∈dO f)(ha:f.ap.length<=100000):Calls prog 198 #[.pointer (some ⟨A,0,none⟩)] w λe w'=>e=.returned (.tuple #[])/\Fm w' A (Jo f) av ov/\aq (aG A av ov) w (aG A av ov) w':=by
 obtain⟨oa,oc,fx,-,-⟩:=aj h.is.ow;subst fx;obtain⟨aa,ac,jK,-,-⟩:=aj h.is.ap;subst jK;obtain⟨w0,kW⟩:∃w0,w0=w.alloc (.cells (Ch []).toArray 290):=⟨_,rfl⟩;have s9:Below w.heap.size w w0:=by rw[kW];exact ah w _
 have hN0:Nu w0 w.heap.size []:=by rw[kW];exact XB w
 have h0:=h.below s9;have aY:∀k∈aG A (.slice aa f.ap.length ac) (.slice oa f.ow.length oc),k≠w.heap.size:=λk hk=>by have:=h.lt k hk;omega
 have x0:=h0.is.cls (i:=0) (by omega);have x1:=h0.is.cls (i:=1) (by omega);have x2:=h0.is.cls (i:=2) (by omega);have x3:=h0.is.cls (i:=3) (by omega);have x4:=h0.is.cls (i:=4) (by omega);unfold fX at x0 x1 x2 x3 x4;have fY:=hO.cl;unfold kg at fY;have hcL:kg f=[f.cl.getD 0 0,f.cl.getD 1 0,f.cl.getD 2 0,f.cl.getD 3 0,f.cl.getD 4 0]:=rfl;obtain⟨y0,e0⟩:∃y,y=f.cl.getD 0 0:=⟨_,rfl⟩;obtain⟨y1,e1⟩:∃y,y=f.cl.getD 1 0:=⟨_,rfl⟩;obtain⟨y2,e2⟩:∃y,y=f.cl.getD 2 0:=⟨_,rfl⟩;obtain⟨y3,e3⟩:∃y,y=f.cl.getD 3 0:=⟨_,rfl⟩;obtain⟨y4,e4⟩:∃y,y=f.cl.getD 4 0:=⟨_,rfl⟩;rw[<-e0,<-e1,<-e2,<-e3,<-e4]at fY hcL;rw[<-e0]at x0;rw[<-e1]at x1;rw[<-e2]at x2;rw[<-e3]at x3;rw[<-e4]at x4;have l0:y0<24:=fY y0 (by simp);have l1:y1<24:=fY y1 (by simp);have l2:y2<24:=fY y2 (by simp);have l3:y3<24:=fY y3 (by simp);have l4:y4<24:=fY y4 (by simp);have j0:=yp (.int .i64 (y0:Int)) (.int .i64 (y1:Int)) (.int .i64 (y2:Int)) (.int .i64 (y3:Int)) (.int .i64 (y4:Int));have j1:=yq (.int .i64 (y0:Int)) (.int .i64 (y1:Int)) (.int .i64 (y2:Int)) (.int .i64 (y3:Int)) (.int .i64 (y4:Int));have j2:=yr (.int .i64 (y0:Int)) (.int .i64 (y1:Int)) (.int .i64 (y2:Int)) (.int .i64 (y3:Int)) (.int .i64 (y4:Int));have j3:=yt (.int .i64 (y0:Int)) (.int .i64 (y1:Int)) (.int .i64 (y2:Int)) (.int .i64 (y3:Int)) (.int .i64 (y4:Int));have j4:=yu (.int .i64 (y0:Int)) (.int .i64 (y1:Int)) (.int .i64 (y2:Int)) (.int .i64 (y3:Int)) (.int .i64 (y4:Int));obtain⟨N,hNe⟩:∃N,N=w.heap.size:=⟨_,rfl⟩;rw[<-hNe]at hN0 aY;have HNe:=ab hNe;have H:=ab h;have H0:=ab h0;have GF:=ab s9;have rB:=ab aY;have uA:=ab hcL;have gG:=hO.owLen;have HO:=ab hO;have HL:=ab hl;have cd:Hid (Nu w0 N (([y0,y1,y2,y3,y4].take 0).foldl ii [])/\aq [N] w0 [N] w0):=ab ⟨hN0,aq.refl _ _⟩;clear h h0 e0 e1 e2 e3 e4 fY hcL hO hN0 s9 aY hl;obtain⟨ag,hag⟩:∃ag,ag=Value.agg (Ch []).toArray:=⟨_,rfl⟩;rw[XC]at kW hag;simp only[replicate]at kW hag;go_enter func198,ntmps198;go_upto_region 1 with fail;rw[<-kW,<-hag,<-hNe];clear kW hNe hag;go_wp2_with fail
 go_loopw [15] (λi wx=>∃(k:Nat),k<=5/\i=.int .i64 k/\Hid (Nu wx N (([y0,y1,y2,y3,y4].take k).foldl ii [])/\aq [N] w0 [N] wx)) (λi _=>5-(intOf i).toNat)
 case atStart=>exact⟨0,zq5 _,rfl,cd⟩
 case round =>
  clear cd x0 x1 x2 x3 x4;obtain⟨k,hk,rfl,hI⟩:=hrel;obtain⟨m,hm⟩:∃m,m=([y0,y1,y2,y3,y4].take k).foldl ii []:=⟨_,rfl⟩;have HM:=ab hm;rw[<-hm]at hI;clear hm;have zr:Hid (∀c:Nat,c<24->Calls prog 223 #[.pointer (some ⟨N,0,none⟩),.int .i64 c] wr λe w'=>e=.returned (.tuple #[])/\Nu w' N (ii m c)/\aq [N] w0 [N] w'):=ab (λc hc=>(tK (uh hI).1 hc).mono (λe w' hw=>⟨hw.1,hw.2.1,(uh hI).2.trans hw.2.2⟩));have th:k=0\/k=1\/k=2\/k=3\/k=4\/k=5:=by omega
  rcases th with rfl|rfl|rfl|rfl|rfl|rfl
  .go_wp2_with fail
   refine(uh zr y0 l0).mono ?_;rintro e w1 ⟨rfl,qJ,dc⟩;have IX:Hid (Nu w1 N (([y0,y1,y2,y3,y4].take 1).foldl ii [])/\aq [N] w0 [N] w1):=ab ⟨by rw[uh HM]at qJ;exact qJ,dc⟩;clear qJ dc;go_wp2_with fail
   go_roundw
   case rel=>exact⟨1,by omega,by go_num,IX⟩
   case measure=>simp[intOf]
  .go_wp2_with fail
   refine(uh zr y1 l1).mono ?_;rintro e w1 ⟨rfl,qJ,dc⟩;have IX:Hid (Nu w1 N (([y0,y1,y2,y3,y4].take 2).foldl ii [])/\aq [N] w0 [N] w1):=ab ⟨by rw[uh HM]at qJ;exact qJ,dc⟩;clear qJ dc;go_wp2_with fail
   go_roundw
   case rel=>exact⟨2,by omega,by go_num,IX⟩
   case measure=>simp[intOf]
  .go_wp2_with fail
   refine(uh zr y2 l2).mono ?_;rintro e w1 ⟨rfl,qJ,dc⟩;have IX:Hid (Nu w1 N (([y0,y1,y2,y3,y4].take 3).foldl ii [])/\aq [N] w0 [N] w1):=ab ⟨by rw[uh HM]at qJ;exact qJ,dc⟩;clear qJ dc;go_wp2_with fail
   go_roundw
   case rel=>exact⟨3,by omega,by go_num,IX⟩
   case measure=>simp[intOf]
  .go_wp2_with fail
   refine(uh zr y3 l3).mono ?_;rintro e w1 ⟨rfl,qJ,dc⟩;have IX:Hid (Nu w1 N (([y0,y1,y2,y3,y4].take 4).foldl ii [])/\aq [N] w0 [N] w1):=ab ⟨by rw[uh HM]at qJ;exact qJ,dc⟩;clear qJ dc;go_wp2_with fail
   go_roundw
   case rel=>exact⟨4,by omega,by go_num,IX⟩
   case measure=>simp[intOf]
  .go_wp2_with fail
   refine(uh zr y4 l4).mono ?_;rintro e w1 ⟨rfl,qJ,dc⟩;have IX:Hid (Nu w1 N (([y0,y1,y2,y3,y4].take 5).foldl ii [])/\aq [N] w0 [N] w1):=ab ⟨by rw[uh HM]at qJ;exact qJ,dc⟩;clear qJ dc;go_wp2_with fail
   go_roundw
   case rel=>exact⟨5,by omega,by go_num,IX⟩
   case measure=>simp[intOf]
  .rw[show((5:Nat):Int)=(5:Int) from rfl];have zF:m=(kg f).foldl ii []:=(by rw[uh HM,uh uA];rfl);have jJ:=(uh H0).is.of_eq (w':=wr) (λj hj=>(uh hI).2.block j ((uh H0).lt j hj) (by simpa using uh rB j hj));have I0:=ab (ui jJ (uh hI).1 (uh rB) (uh HO).ow (k0:=0) (by omega));have cI:=ab (uh hI).2;rw[zF]at I0;clear j0 j1 j2 j3 j4 l0 l1 l2 l3 l4 zF jJ hI HM zr;go_wp2_with fail
   refine(uh I0).mono ?_;rintro e w1 ⟨rfl,qJ,dc⟩;have mU:=(uh cI).trans dc;have jJ:=(uh H0).is.of_eq (w':=w1) (λj hj=>mU.block j ((uh H0).lt j hj) (by simpa using uh rB j hj));have c6:=jJ.c6;obtain⟨M1,hM1⟩:∃M1,M1=mX f 25 0 ((kg f).foldl ii []):=⟨_,rfl⟩;have HM1:=ab hM1;rw[<-hM1]at qJ;have ep:Hid (Nu w1 N ((f.ow.take 0).foldl (wY f) M1)/\aq [N] w0 [N] w1):=ab ⟨qJ,mU⟩;clear qJ dc mU jJ I0 hM1 cI;go_wp2_with fail
   go_loopw [30] (λi wx=>∃(k:Nat),k<=f.ow.length/\i=.int .i64 k/\Hid (Nu wx N ((f.ow.take k).foldl (wY f) M1)/\aq [N] w0 [N] wx)) (λi _=>f.ow.length-(intOf i).toNat)
   case atStart=>exact⟨0,zq5 _,rfl,ep⟩
   case round =>
    clear ep c6;obtain⟨k,hk,rfl,hI⟩:=hrel;have jJ:=(uh H0).is.of_eq (w':=wr) (λj hj=>(uh hI).2.block j ((uh H0).lt j hj) (by simpa using uh rB j hj));by_cases ar:k<f.ow.length
    .have hd:decide ((k:Int)<(f.ow.length:Int))=true:=(by simp;omega);obtain⟨g,cap,c9,-,-⟩:=aD jJ.ow ar;simp only[Value.slice.injEq,true_and]at c9;obtain⟨rfl,rfl⟩:=c9;obtain⟨x0,x1,x2⟩:=aA jJ.ow ar;have lr:=((uh HO).ow _ (dl ar)).1;have oq:=iJ (g:=wY f) (a:=M1) ar;obtain⟨p,hp⟩:∃p,p=f.ow.getD k aE:=⟨_,rfl⟩;rw[<-hp]at x0 x1 x2 lr oq;obtain⟨m,hm⟩:∃m,m=(f.ow.take k).foldl (wY f) M1:=⟨_,rfl⟩;rw[<-hm]at hI oq;obtain⟨-,n1,-⟩:=Dy wr (Value.int .i64 p.k) (.int .i64 p.l) (.int .i64 p.r) 182;have OP:=(uh hI).1.below (ah wr (.cells #[Value.int .i64 p.k,.int .i64 p.l,.int .i64 p.r] 182));have OX:=OP.count;have et:=OP.ok.len;have zr:=ab (tK OP lr);have Dn:aq [N] w0 [N] (wr.alloc (.cells #[Value.int .i64 p.k,.int .i64 p.l,.int .i64 p.r] 182)):=(uh hI).2.trans (aq.ofBw (ah wr _));have Ee:=ab Dn;have IW:=ab oq;have i1:(0:Int)<=(k:Int):=(by omega);have i2:(k:Int)<(f.ow.length:Int):=(by omega);obtain⟨L,hL⟩:∃L,L=m.length:=⟨_,rfl⟩;have HLm:=ab hL;rw[<-hL]at OX et;clear hp hm OP Dn oq jJ hI hL;go_wp2_with fail
     refine(uh zr).mono ?_;rintro e w2 ⟨rfl,mS,dF⟩;have WT:=(uh Ee).trans dF;have oj:=(uh H0).is.of_eq (w':=w2) (λj hj=>WT.block j ((uh H0).lt j hj) (by simpa using uh rB j hj));have I0:=ab (ui oj mS (uh rB) (uh HO).ow (k0:=L) et);have cj:=ab WT;clear mS dF WT oj zr Ee n1 OX;go_wp2_with fail
     refine(uh I0).mono ?_;rintro e w3 ⟨rfl,zB,fe⟩;have HN3:Hid (Nu w3 N ((f.ow.take (k+1)).foldl (wY f) M1)/\aq [N] w0 [N] w3):=ab ⟨by
      rw[uh IW];unfold wY;rw[uh HLm]at zB;exact zB,(uh cj).trans fe⟩
     clear zB fe I0 cj;go_wp2_with fail
     go_roundw
     case rel=>exact⟨k+1,by omega,by go_num,HN3⟩
     case measure=>simp[intOf];omega
    .have hd:decide ((k:Int)<(f.ow.length:Int))=false:=(by simp;omega);have jl:k=f.ow.length:=(by omega);have QV:(f.ow.take k).foldl (wY f) M1=t0 f:=(by rw[jl,take_length,uh HM1];rfl);rw[QV]at hI;obtain⟨R,hR⟩:∃R,R=t0 f:=⟨_,rfl⟩;rw[<-hR]at hI;have HR:=ab hR;have hFm:Fm wr A f (.slice aa f.ap.length ac) (.slice oa f.ow.length oc):=(uh H0).of_eq (λj hj=>(uh hI).2.block j ((uh H0).lt j hj) (by simpa using uh rB j hj));have hU:Hid (Fm wr A { f with cl:=GU (λc=>R.idxOf c) f.cl 0 } (.slice aa f.ap.length ac) (.slice oa f.ow.length oc)/\Nu wr N R/\aq (N::aG A (.slice aa f.ap.length ac) (.slice oa f.ow.length oc)) w0 (N::aG A (.slice aa f.ap.length ac) (.slice oa f.ow.length oc)) wr):=ab ⟨by simpa[GU] using hFm,(uh hI).1,(uh hI).2.wide (λj hj=>by rw[mem_singleton]at hj;subst hj;simp)⟩;clear jl QV hR hFm jJ hI;go_wp2_with fail
     go_loopw [8] (λi wx=>∃(k:Nat),k<=5/\i=.int .i64 k/\Hid (Fm wx A { f with cl:=GU (λc=>R.idxOf c) f.cl k } (.slice aa f.ap.length ac) (.slice oa f.ow.length oc)/\Nu wx N R/\aq (N::aG A (.slice aa f.ap.length ac) (.slice oa f.ow.length oc)) w0 (N::aG A (.slice aa f.ap.length ac) (.slice oa f.ow.length oc)) wx)) (λi _=>5-(intOf i).toNat)
     case atStart=>exact⟨0,zq5 _,rfl,hU⟩
     case round =>
      clear hU;obtain⟨k,hk,rfl,hI⟩:=hrel;by_cases ar:k<5
      .have hd:decide ((k:Int)<(5:Int))=true:=(by simp;omega);have aS:=J7 (g:=λc=>R.idxOf c) (c:=f.cl) (k:=k) (by have:=(uh HO).c5;omega);have xZ:=(uh HO).get k;have rg:f.cl.getD k 0∈R:=(by rw[uh HR];exact(pD (uh HO).ow (uh HO).cl).2.2.1 _ (im ar));obtain⟨c,hc⟩:∃c,c=f.cl.getD k 0:=⟨_,rfl⟩;rw[<-hc]at aS xZ rg;have x:wr.cell? ⟨A,k,none⟩=some (.int .i64 (c:Int)):=by
        have:=(uh hI).1.is.cls ar;unfold fX at this;rw[this];show some (Value.int .i64 (((GU (λc=>R.idxOf c) f.cl k).getD k 0:Nat):Int))=_;rw[aS.2]
       have fz:wr.frozen? ⟨A,k,none⟩=false:=ownsRow.frozenAt (uh hI).1.is.ob k;have q1:=(uh hI).2.1.fresh xZ;have e1:Ar R c=R.idxOf c+1:=(by unfold Ar;rw[if_pos rg]);rw[e1]at q1;have yk:=(uh hI).1.setCl k (R.idxOf c) ar;rw[show({ f with cl:=GU (λc=>R.idxOf c) f.cl k }:CF).cl=GU (λc=>R.idxOf c) f.cl k from rfl,<-aS.1]at yk;have Zb:A≠N:=uh rB A (by simp[aG]);obtain⟨y,hy⟩:∃y,y=R.idxOf c:=⟨_,rfl⟩;rw[<-hy]at q1 yk;have aoo:y<24:=(by rw[hy];exact lP (uh hI).2.1.ok rg);rw[show((y+1:Nat):Int)=(y:Int)+1 by omega]at q1;have BQ:Hid (Fm (wr.setCell ⟨A,k,none⟩ (.int .i64 (y:Int))) A { f with cl:=GU (λc=>R.idxOf c) f.cl (k+1) } (.slice aa f.ap.length ac) (.slice oa f.ow.length oc)/\Nu (wr.setCell ⟨A,k,none⟩ (.int .i64 (y:Int))) N R/\aq (N::aG A (.slice aa f.ap.length ac) (.slice oa f.ow.length oc)) w0 (N::aG A (.slice aa f.ap.length ac) (.slice oa f.ow.length oc)) (wr.setCell ⟨A,k,none⟩ (.int .i64 (y:Int)))):=ab ⟨yk,(uh hI).2.1.of_eq (heap_setCell _ _ _ _ (λe=>Zb e.symm)),(uh hI).2.2.setCell (p:=⟨A,k,none⟩) (zq0 (by simp[aG])) _⟩;have i1:(0:Int)<=(k:Int):=(by omega);have i2:(k:Int)<(5:Int):=(by omega);have i3:(c:Int)<(24:Int):=(by omega);clear aS rg hc e1 yk hy Zb hI;go_wp2_with fail
       go_region
       go_wp2_with fail
       go_roundw
       case rel=>exact⟨k+1,by omega,by go_num,ab ⟨(uh BQ).1.of_eq (λ_ _=>rfl),(uh BQ).2.1.of_eq rfl,(uh BQ).2.2.drew⟩⟩
       case measure=>simp[intOf];omega
      .have hd:decide ((k:Int)<(5:Int))=false:=(by simp;omega);have Dd:k=5:=(by omega);have fY:GU (λc=>R.idxOf c) f.cl k=(kg f).map (λc=>R.idxOf c):=by
        rw[rH (uh HO).c5];unfold GU;have h5:=(uh HO).c5;rw[take_of_length_le (by omega),drop_eq_nil_of_le (by omega),append_nil]
       rw[fY]at hI;have jO:∀c∈dO f,c∈R:=(by rw[uh HR];exact ua (uh HO).ow (uh HO).cl (uh HO).lf);have B1:=(uh hI).1;have c6:=B1.is.c6;have Zk:=uh rB;have Uu:=ab (vU B1.is.ow (uh hI).2.1 (λe=>Zk N (by simp only[aG,mem_cons,mem_append,Option.mem_toList];exact zq1 (zq1 e)) rfl) (λp hp=>⟨jO _ (mem_append_right _ (mem_flatMap.2 ⟨p,hp,by simp⟩)),jO _ (mem_append_right _ (mem_flatMap.2 ⟨p,hp,by simp⟩))⟩) (zq3 gG (by omega)));have HLV:=ab jO;clear fY Dd jO B1 Zk;go_wp2_with fail
       refine(uh Uu).mono ?_;rintro e w4 ⟨rfl,zG,tu⟩;obtain⟨qf,ac5⟩:=(uh hI).1.newRow (ow':=f.ow.map (wO R)) (by simp) zG tu;have Zk:=uh rB;have Lb:Nu w4 N R:=(uh hI).2.1.of_eq (tu.block N (uh hI).2.1.ltN (λhj=>Zk N (by simp only[aG,mem_cons,mem_append];exact zq1 (zq1 hj)) rfl));have c5:=qf.is.c5;have ZU:=ab (vU qf.is.ap Lb (λe=>Zk N (by simp only[aG,mem_cons,mem_append,Option.mem_toList];exact zq1 (zq0 e)) rfl) (λp hp=>⟨uh HLV _ (uh HL p hp).1,uh HLV _ (uh HL p hp).2⟩) ha);have SO:=ab qf;have k6:Hid (aq (N::aG A (.slice aa f.ap.length ac) (.slice oa f.ow.length oc)) w0 (N::aG A (.slice aa f.ap.length ac) (.slice oa f.ow.length oc)) w4):=ab ((uh hI).2.2.trans (ac5.wide (λj hj=>mem_cons_of_mem _ hj)));clear zG tu qf ac5 Zk Lb Uu;go_wp2_with fail
       refine(uh ZU).mono ?_;rintro e w5 ⟨rfl,yh,oO⟩;obtain⟨At,yl⟩:=(uh SO).newRowA (ap':=f.ap.map (wO R)) (by simp) yh oO;have SP:Hid (Fm w5 A (Jo f) (.slice aa f.ap.length ac) (.slice oa f.ow.length oc)):=ab (by unfold Jo;rw[<-uh HR];exact At);have qZ:Hid (aq (aG A (.slice aa f.ap.length ac) (.slice oa f.ow.length oc)) w (aG A (.slice aa f.ap.length ac) (.slice oa f.ow.length oc)) w5):=ab (by
        have h1:=(uh k6).trans (yl.wide (λj hj=>mem_cons_of_mem _ hj));have hb:=uh GF;exact⟨h1.os.trans hb.os,h1.tape.trans hb.tape,h1.output.trans hb.output,zq3 hb.size h1.size,λj hj hn=>(h1.block j (zq6 hj hb.size) (by
         rw[mem_cons,not_or];exact⟨by have:=uh HNe;omega,hn⟩)).trans (hb.block j hj),λj hj=>zq0 hj⟩)
       clear yh oO At yl ZU;go_wp2_with fail
       go_end0
       exact⟨rfl,uh SP,uh qZ⟩
end
theorem Vr(a b c x y z:Int)(w:World):(Op.equalIn 10000 182 (.agg #[.int .i64 a,.int .i64 b,.int .i64 c]) (.agg #[.int .i64 x,.int .i64 y,.int .i64 z])).run prog w=.ok (a==x&&(b==y&&c==z)) w:=by
 have u3:=underlying3;have a3:=Tryz.isAgg3;have z3:=sizeOf3;have hS:prog.underlying 182=some (.struct (prog.fieldsOf 182)):=by kernel_rfl
 have hp:prog.stoodInHeld 182=false:=by kernel_rfl
 rw[show(10000:Nat)=9999+1 from rfl,run_equalIn_agg w 9999 182 _ _ hS hp];simp only[Program.fieldsOf,underlying182];go_simp
 by_cases h1:a=x <;> by_cases h2:b=y <;> by_cases h3:c=z <;> simp[h1,h2,h3]
theorem adw(a b c x y z:Int)(w:World):(binOp .neq 182 (.agg #[.int .i64 a,.int .i64 b,.int .i64 c]) (.agg #[.int .i64 x,.int .i64 y,.int .i64 z])).run prog w=.ok (.bool (!(a==x&&(b==y&&c==z)))) w:=by
 rw[run_neq_struct,Vr];rfl
theorem KY:prog.eqGuardType prog.depth 182=false:=by kernel_rfl
