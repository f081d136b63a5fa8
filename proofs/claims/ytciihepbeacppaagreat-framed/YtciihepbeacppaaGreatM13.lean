import Derived.Test.YtciihepbeacppaaGreatM12
import Derived.Laws.StructEq
set_option maxRecDepth 100000
set_option maxHeartbeats 0
namespace Go.Proofs.YtciihepbeacppaaGreat
open Tryz Go.RowKit List World Below
set_option linter.unusedVariables false
def Es(ms:List Nat):List Value:=(ms++replicate (24-ms.length) 0).map (λn=>Value.int .i64 (n:Nat))++((range 24).map (λc=>Value.int .i64 (CC ms c:Nat))++[Value.int .i64 (ms.length:Nat)])
theorem Gf{ms:List Nat}(h:ms.length<=24){k:Nat}(hk:k<24):(Es ms)[k]?=some (.int .i64 ((ms.getD k 0:Nat):Int)):=by
 unfold Es;rw[getElem?_append_left (by simp;omega),getElem?_map,getD_eq_getElem?_getD];by_cases hl:k<ms.length
 .rw[getElem?_append_left hl,getElem?_eq_getElem hl];rfl
 .rw[getElem?_append_right (by omega),getElem?_replicate,if_pos (by omega),getElem?_eq_none (by omega)];rfl
theorem v7{ms:List Nat}(h:ms.length<=24){c:Nat}(hc:c<24):(Es ms)[24+c]?=some (.int .i64 ((CC ms c:Nat):Int)):=by
 unfold Es;have e:((ms++replicate (24-ms.length) 0).map (λn=>Value.int .i64 ((n:Nat):Int))).length=24:=by simp;omega
 rw[getElem?_append_right (by omega),e,Nat.add_sub_cancel_left,getElem?_append_left (by simpa using hc),getElem?_map,getElem?_range hc];rfl
theorem vZ{ms:List Nat}(h:ms.length<=24):(Es ms)[48]?=some (.int .i64 ((ms.length:Nat):Int)):=by
 unfold Es;have e:((ms++replicate (24-ms.length) 0).map (λn=>Value.int .i64 ((n:Nat):Int))).length=24:=by simp;omega
 rw[getElem?_append_right (by omega),e,getElem?_append_right (by simp)];simp
theorem Ge{ms:List Nat}(h:ms.length<=24):(Es ms).length=49:=by unfold Es;simp;omega
theorem TD{ms:List Nat}{c d:Nat}(hc:c ∉ ms):CC (ms++[c]) d=if d=c then ms.length+1 else CC ms d:=by
 unfold CC;by_cases hd:d=c
 .subst hd;rw[if_pos (by simp),if_pos rfl,idxOf_append,if_neg hc];simp
 .rw[if_neg hd];by_cases hm:d∈ms
  .rw[if_pos (by simp[hm]),if_pos hm,idxOf_append,if_pos hm]
  .rw[if_neg (by simp[hm,hd]),if_neg hm]
theorem abf{ms:List Nat}{c:Nat}(hl:ms.length<24)(hc:c<24)(hn:c ∉ ms):(((Es ms).set ms.length (.int .i64 (c:Int))).set 48 (.int .i64 ((ms.length+1:Nat):Int))).set (24+c) (.int .i64 ((ms.length+1:Nat):Int))=Es (ms++[c]):=by
 refine ext_getElem? (λj=>?_);have l1:=Ge (ms:=ms) (by omega);have l2:=Ge (ms:=ms++[c]) (by simp;omega);simp only[getElem?_set,length_set,l1];by_cases hj:j<49
 .by_cases h1:j<24
  .rw[Gf (ms:=ms++[c]) (by simp;omega) h1,if_neg (by omega),if_neg (by omega)];by_cases h2:ms.length=j
   .subst h2;rw[if_pos rfl,if_pos (by omega),getD_eq_getElem?_getD,getElem?_append_right (zq4 _)];simp
   .rw[if_neg h2,Gf (ms:=ms) (by omega) h1];have e:ms.getD j 0=(ms++[c]).getD j 0:=by
     rw[getD_eq_getElem?_getD,getD_eq_getElem?_getD];by_cases h3:j<ms.length
     .rw[getElem?_append_left h3]
     .rw[getElem?_eq_none (by omega),getElem?_eq_none (by simp;omega)]
    rw[e]
  .by_cases h2:j=48
   .subst h2;rw[vZ (ms:=ms++[c]) (by simp;omega),if_neg (by omega),if_pos rfl,if_pos (by omega)];simp
   .obtain⟨d,hd⟩:∃d,j=24+d:=⟨j-24,by omega⟩;subst hd;rw[v7 (ms:=ms++[c]) (by simp;omega) (by omega),TD hn];by_cases h3:d=c
    .subst h3;rw[if_pos rfl,if_pos (by omega),if_pos rfl]
    .rw[if_neg (by omega),if_neg (by omega),if_neg (by omega),v7 (ms:=ms) (by omega) (by omega),if_neg h3]
 .rw[if_neg (by omega),if_neg (by omega),if_neg (by omega),getElem?_eq_none (by omega),getElem?_eq_none (by omega)]
structure Nu(w:World)(N:Nat)(ms:List Nat):Prop where
 ob:Ob w 290 49 N (Es ms)
 ok:d9 ms
section
variable {w w':World} {N:Nat} {ms:List Nat}
theorem Nu.of_eq(h:Nu w N ms)(he:w'.heap[N]?=w.heap[N]?):Nu w' N ms:=⟨h.ob.of_eq he,h.ok⟩
theorem Nu.ltN(h:Nu w N ms):N<w.heap.size:=(ownsRow.lt h.ob N rfl).2
theorem Nu.below(h:Nu w N ms)(hb:Below w.heap.size w w'):Nu w' N ms:=h.of_eq (hb.block N h.ltN)
theorem Nu.old(h:Nu w N ms){k:Nat}(hk:k<24):w.cell? ⟨N,k,none⟩=some (.int .i64 ((ms.getD k 0:Nat):Int)):=(ownsRow.cellAt h.ob k (by omega)).trans (Gf h.ok.len hk)
theorem Nu.fresh(h:Nu w N ms){c:Nat}(hc:c<24):w.cell? ⟨N,24+c,none⟩=some (.int .i64 ((CC ms c:Nat):Int)):=(ownsRow.cellAt h.ob (24+c) (by omega)).trans (v7 h.ok.len hc)
theorem Nu.count(h:Nu w N ms):w.cell? ⟨N,48,none⟩=some (.int .i64 ((ms.length:Nat):Int)):=(ownsRow.cellAt h.ob 48 (by omega)).trans (vZ h.ok.len)
theorem Nu.frz(h:Nu w N ms)(j:Nat):w.frozen? ⟨N,j,none⟩=false:=ownsRow.frozenAt h.ob j
theorem vU(h:Nu w N ms){c:Nat}(hc:c<24):Calls prog 223 #[.pointer (some ⟨N,0,none⟩),.int .i64 c] w λe w'=>e=.returned (.tuple #[])/\Nu w' N (iT ms c)/\au [N] w [N] w':=by
 have iX:=h.fresh hc;have Ii:=h.count;have hz:=h.frz;by_cases hm:c∈ms
 .have aav:0<CC ms c:=by unfold CC;rw[if_pos hm];omega
  obtain⟨x,hx⟩:∃x,x=CC ms c:=⟨_,rfl⟩;rw[<-hx]at iX aav;have hd:decide ((0:Int)<(x:Int))=true:=by simp;omega
  have HE:Hid (iT ms c=ms):=ab (by unfold iT;rw[if_pos hm]);have H:=ab h;clear h hx hm hz Ii;go_enter func223,ntmps223;go_wp2_with fail
  refine bodyPost_ret (v:=.tuple #[]) (by simp[results,Tryz.f223]) rfl ?_;exact⟨rfl,by rw[uh HE];exact uh H,au.refl _ _⟩
 .have hx:CC ms c=0:=by unfold CC;rw[if_neg hm]
  rw[hx]at iX;have hl:ms.length<24:=by
   have h1:=(h.ok.me hc).len;unfold iT at h1;rw[if_neg hm,length_append,length_singleton]at h1;omega
  have o1:=h.ob.stored ms.length (.int .i64 (c:Int));have o2:=o1.stored 48 (.int .i64 ((ms.length+1:Nat):Int));have o3:=o2.stored (24+c) (.int .i64 ((ms.length+1:Nat):Int));rw[abf hl hc hm]at o3;have c2:=ownsRow.cellAt o1 48 (by omega);rw[getElem?_set,if_neg (by omega),vZ (by omega)]at c2;have f2:=ownsRow.frozenAt o1 48;have c3:=ownsRow.cellAt o2 48 (by omega);rw[getElem?_set,if_pos rfl,if_pos (by rw[length_set,Ge (by omega)];omega)]at c3;obtain⟨⟨u4,c4⟩,f4⟩:=o2.some (j:=24+c) (by omega);obtain⟨⟨u5,c5⟩,f5⟩:=h.ob.some (j:=ms.length) (by omega);have db:Hid (au [N] w [N] (((w.setCell ⟨N,ms.length,none⟩ (.int .i64 (c:Int))).setCell ⟨N,48,none⟩ (.int .i64 ((ms.length+1:Nat):Int))).setCell ⟨N,24+c,none⟩ (.int .i64 ((ms.length+1:Nat):Int)))):=ab ((((au.refl [N] w).setCell (p:=⟨N,ms.length,none⟩) (zq0 (by simp)) _).setCell (p:=⟨N,48,none⟩) (zq0 (by simp)) _).setCell (p:=⟨N,24+c,none⟩) (zq0 (by simp)) _);have HN:Hid (Nu (((w.setCell ⟨N,ms.length,none⟩ (.int .i64 (c:Int))).setCell ⟨N,48,none⟩ (.int .i64 ((ms.length+1:Nat):Int))).setCell ⟨N,24+c,none⟩ (.int .i64 ((ms.length+1:Nat):Int))) N (iT ms c)):=ab (by
   have e:iT ms c=ms++[c]:=(by unfold iT;rw[if_neg hm]);have h1:=h.ok.me hc;rw[e]at h1 ⊢;exact⟨o3,h1⟩)
  obtain⟨n,hn⟩:∃n,n=ms.length:=⟨_,rfl⟩;rw[<-hn]at Ii hl c2 f2 c3 c4 f4 c5 f5 db HN;rw[show((n+1:Nat):Int)=(n:Int)+1 by omega]at c3 c4 f4 db HN;have hd:decide ((0:Int)<0)=false:=by decide
  clear o1 o2 o3 h hx hm hn hz;go_enter func223,ntmps223;go_wp2_with fail
  go_region
  go_wp2_with fail
  go_region
  go_wp2_with fail
  go_end0
  exact⟨rfl,(uh HN).of_eq rfl,(uh db).drew.drew⟩
end
section
variable {w:World} {A N:Nat} {f:CF} {av ov:Value} {ms:List Nat}
theorem wG(hF:ew w A f av ov)(hN:Nu w N ms)(hd:∀k∈aH A av ov,k≠N)(hO:∀p∈f.ow,p.l<24/\p.r<24){k0:Nat}(hk0:k0<=24):Calls prog 224 #[.pointer (some ⟨A,0,none⟩),.pointer (some ⟨N,0,none⟩),.int .i64 k0] w λe w'=>e=.returned (.tuple #[])/\Nu w' N (oV f 25 k0 ms)/\au [N] w [N] w':=by
 have HF:=ab hF;have HD:=ab hd;have HO:=ab hO;obtain⟨R,hR⟩:∃R,R=oV f 25 k0 ms:=⟨_,rfl⟩;have cG:Hid (Nu w N ms/\oV f 25 k0 ms=R/\au [N] w [N] w):=ab ⟨hN,hR.symm,au.refl _ _⟩;rw[<-hR];clear hF hN hd hO hR;go_enter func224,ntmps224;go_wp2_with fail
 go_loopw [6] (λi wx=>∃(k n:Nat) (ml:List Nat),k<=24/\24<n+k/\i=.int .i64 k/\Hid (Nu wx N ml/\oV f n k ml=R/\au [N] w [N] wx)) (λi _=>25-(intOf i).toNat)
 case atStart=>exact⟨k0,25,ms,hk0,by omega,rfl,cG⟩
 case round =>
  clear cG;obtain⟨k,n,ml,hk,hn,rfl,hI⟩:=hrel;have Ii:=(uh hI).1.count;have fy:=(uh hI).1.ok.len;by_cases ar:k<ml.length
  .have hd:decide ((k:Int)<(ml.length:Int))=true:=(by simp;omega);have iE:=(uh hI).1.old (k:=k) (by omega);have af4:k<24:=(by omega);obtain⟨n',rfl⟩:∃n',n=n'+1:=⟨n-1,by omega⟩;have aV:oV f n' (k+1) (zm f k ml)=R:=by
    have:=(uh hI).2.1;unfold oV at this;rwa [if_pos ar]at this
   have TO:=(uh HF).of_eq (w':=wr) (λj hj=>(uh hI).2.2.block j ((uh HF).lt j hj) (by simpa using uh HD j hj));have HB:=ab (cI (ml.getD k 0) TO);have db:=ab aV;have Sy:Hid (zm f k ml=match cU f.ow (ml.getD k 0) with|some i=>iT ml (f.ow.getD i ax).r|none=>ml):=ab rfl;obtain⟨c,hc⟩:∃c,c=ml.getD k 0:=⟨_,rfl⟩;rw[<-hc]at iE HB Sy;have HFr:=ab TO;have HN:=ab (uh hI).1;have HP:=ab (uh hI).2.2;obtain⟨L,hL⟩:∃L,L=ml.length:=⟨_,rfl⟩;rw[<-hL]at Ii hd ar;clear aV TO hc hI hL fy;go_wp2_with fail
   refine(uh HB).mono ?_;rintro e w1 ⟨rfl,rfl⟩;have hg:=sj (cU f.ow c);cases hb:cU f.ow c with
   |none =>
    rw[hb]at hg Sy;have cS:Hid (zm f k ml=ml):=ab (uh Sy);clear Sy;go_wp2_with fail
    go_roundw
    case rel=>exact⟨k+1,n',ml,by omega,by omega,by go_num,ab ⟨uh HN,by have:=uh db;rw[uh cS]at this;exact this,uh HP⟩⟩
    case measure=>simp[intOf];omega
   |some i =>
    rw[hb]at hg Sy;have cS:Hid (zm f k ml=iT ml (f.ow.getD i ax).r):=ab (uh Sy);clear Sy;obtain⟨hi,-⟩:=eC hb;have c6:=(uh HFr).c6;obtain⟨g,cap,dQ,-,-⟩:=aE (uh HFr).ow hi;subst dQ;obtain⟨x0,x1,x2⟩:=aD (uh HFr).ow hi;have xC:=(uh HO (f.ow.getD i ax) (bG hi)).2;obtain⟨p,hp⟩:∃p,p=f.ow.getD i ax:=⟨_,rfl⟩;rw[<-hp]at x0 x1 x2 xC cS;have HM:=ab (vU (uh HN) xC);rw[show fL (some i)=(i:Int) from rfl]at hg ⊢;have i1:(0:Int)<=(i:Int):=(by omega);have i2:(i:Int)<(f.ow.length:Int):=(by omega);clear hp hb;go_wp2_with fail
    refine(uh HM).mono ?_;rintro e w2 ⟨rfl,If,gQ⟩;have D0:=ab If;have HP2:=ab ((uh HP).trans gQ);clear If gQ;go_wp2_with fail
    go_roundw
    case rel=>exact⟨k+1,n',_,by omega,by omega,by go_num,ab ⟨uh D0,by have:=uh db;rw[uh cS]at this;exact this,uh HP2⟩⟩
    case measure=>simp[intOf];omega
  .have hd:decide ((k:Int)<(ml.length:Int))=false:=(by simp;omega);have HE:Hid (ml=R):=ab (by
    have:=(uh hI).2.1;cases n with
    |zero=>exact this
    |succ n=>unfold oV at this;rwa [if_neg ar]at this)
   go_wp2_with fail
   go_end0
   exact⟨rfl,by rw[<-uh HE];exact(uh hI).1,(uh hI).2.2⟩
end
section
variable {w:World} {N:Nat} {v:Value} {l:List Pr} {ms:List Nat}
theorem yt(h:w.ownsRow 0 182 3 v l.length (af l))(hN:Nu w N ms)(hv:v.ownBlock≠some N)(hm:∀p∈l,p.l∈ms/\p.r∈ms)(hl:l.length<=100000):
  Calls prog 225 #[.pointer (some ⟨N,0,none⟩),v] w λe w'=>e=.returned (.tuple #[])/\w'.ownsRow 0 182 3 v l.length (af (l.map (jf ms)))/\au v.ownBlock.toList w v.ownBlock.toList w':=by
 obtain⟨va,vc,hv',Ps,Uo⟩:=aj h;subst hv';have uC:Hid (w.ownsRow 0 182 3 (.slice va l.length vc) l.length (af (bP (jf ms) l 0))/\au (Value.slice va l.length vc).ownBlock.toList w (Value.slice va l.length vc).ownBlock.toList w):=ab ⟨by simpa[bP] using h,au.refl _ _⟩;have HN:=ab hN;have HV:=ab hv;have HM:=ab hm;clear h hN hv hm;go_enter func225,ntmps225;go_wp2_with fail
 go_loopw [4] (λi wx=>∃(k:Nat),k<=l.length/\i=.int .i64 k/\Hid (wx.ownsRow 0 182 3 (.slice va l.length vc) l.length (af (bP (jf ms) l k))/\au (Value.slice va l.length vc).ownBlock.toList w (Value.slice va l.length vc).ownBlock.toList wx)) (λi _=>l.length-(intOf i).toNat)
 case atStart=>exact⟨0,zq5 _,rfl,uC⟩
 case round =>
  clear uC;obtain⟨k,hk,rfl,hI⟩:=hrel;by_cases ar:k<l.length
  .have hd:decide ((k:Int)<(l.length:Int))=true:=(by simp;omega);obtain⟨g,cap,dQ,-,-,-⟩:=cR (uh hI).1 (by omega);simp only[Value.slice.injEq,true_and]at dQ;obtain⟨rfl,rfl⟩:=dQ;have hgN:g≠N:=λe=>uh HV (by rw[e];rfl);have TR:Nu wr N ms:=(uh HN).of_eq ((uh hI).2.block N (uh HN).ltN (by simpa[Value.ownBlock] using λe=>hgN e.symm));have hK:=lq (g:=jf ms) ar;have hr:=(uh hI).1;have dL:=jL (jf ms) l k;have FI:wr.ownsRow 0 182 3 (.slice (some ⟨g,0,none⟩) (bP (jf ms) l k).length vc) (bP (jf ms) l k).length (af (bP (jf ms) l k)):=(by rw[dL];exact hr);obtain⟨-,x1,x2⟩:=aD FI (i:=k) (by omega);obtain⟨mK,xC⟩:=uh HM (l.getD k ax) (bG ar);have aV:=lr (g:=jf ms) ar;rw[hK]at x1 x2;obtain⟨p,hp⟩:∃p,p=l.getD k ax:=⟨_,rfl⟩;rw[<-hp]at x1 x2 mK xC aV hK;have f1:=hr.frozenAt (k*3+1);have f2:=hr.frozenAt (k*3+2);have q1:=TR.fresh (TR.ok.2 p.l mK);have q2:=TR.fresh (TR.ok.2 p.r xC);have e1:CC ms p.l=ms.idxOf p.l+1:=(by unfold CC;rw[if_pos mK]);have e2:CC ms p.r=ms.idxOf p.r+1:=(by unfold CC;rw[if_pos xC]);rw[e1]at q1;rw[e2]at q2;have b1:=m8 TR.ok mK;have b2:=m8 TR.ok xC;have b3:=TR.ok.2 p.l mK;have b4:=TR.ok.2 p.r xC;obtain⟨x,hx⟩:∃x,x=ms.idxOf p.l:=⟨_,rfl⟩;obtain⟨y,hy⟩:∃y,y=ms.idxOf p.r:=⟨_,rfl⟩;rw[<-hx]at q1 b1;rw[<-hy]at q2 b2;rw[show((x+1:Nat):Int)=(x:Int)+1 by omega]at q1;rw[show((y+1:Nat):Int)=(y:Int)+1 by omega]at q2;have i1:(0:Int)<=(k:Int):=(by omega);have i2:(k:Int)<(l.length:Int):=(by omega);have s1:(wr.setCell ⟨g,k*3+1,none⟩ (.int .i64 (x:Int))).ownsRow 0 182 3 (.slice (some ⟨g,0,none⟩) l.length vc) l.length (af ((bP (jf ms) l k).set k ⟨p.k,x,p.r⟩)):=by
    have:=(hr.stored (k*3+1) (.int .i64 (x:Int))).1;rw[jq (by omega),hK]at this;exact this
   have s2:((wr.setCell ⟨g,k*3+1,none⟩ (.int .i64 (x:Int))).setCell ⟨g,k*3+2,none⟩ (.int .i64 (y:Int))).ownsRow 0 182 3 (.slice (some ⟨g,0,none⟩) l.length vc) l.length (af (bP (jf ms) l (k+1))):=by
    have:=(s1.stored (k*3+2) (.int .i64 (y:Int))).1;rw[eX (by simp;omega)]at this;rw[aV];have e:jf ms p=⟨p.k,x,y⟩:=(by unfold jf;rw[<-hx,<-hy]);rw[e];simpa[dL,ar] using this
   have y2:(wr.setCell ⟨g,k*3+1,none⟩ (.int .i64 (x:Int))).cell? ⟨g,k*3+2,none⟩=some (.int .i64 (p.r:Int)):=by
    rw[cell?_setCell_other _ _ _ _ (by simp)];exact x2
   have z2:=s1.frozenAt (k*3+2);have q2':(wr.setCell ⟨g,k*3+1,none⟩ (.int .i64 (x:Int))).cell? ⟨N,24+p.r,none⟩=some (.int .i64 ((y:Int)+1)):=by
    rw[cell?_setCell_other _ _ _ _ (by simp only[ne_eq,Addr.mk.injEq,not_and];intro e;exact absurd e hgN)];exact q2
   have HS:=ab s2;have db:Hid (au (Value.slice (some ⟨g,0,none⟩) l.length vc).ownBlock.toList w (Value.slice (some ⟨g,0,none⟩) l.length vc).ownBlock.toList ((wr.setCell ⟨g,k*3+1,none⟩ (.int .i64 (x:Int))).setCell ⟨g,k*3+2,none⟩ (.int .i64 (y:Int)))):=ab (((uh hI).2.setCell (p:=⟨g,k*3+1,none⟩) (zq0 (by simp[Value.ownBlock])) _).setCell (p:=⟨g,k*3+2,none⟩) (zq0 (by simp[Value.ownBlock])) _);clear hr FI hK dL hp s1 s2 hI aV TR mK xC e1 e2 hx hy hgN;go_wp2_with fail
   go_region
   go_wp2_with fail
   go_region
   go_wp2_with fail
   go_roundw
   case rel=>exact⟨k+1,by omega,by go_num,ab ⟨(uh HS).drew.drew,(uh db).drew.drew⟩⟩
   case measure=>simp[intOf];omega
  .have hd:decide ((k:Int)<(l.length:Int))=false:=(by simp;omega);have HE:Hid (bP (jf ms) l k=l.map (jf ms)):=ab (vQ (by omega));go_wp2_with fail
   go_end0
   exact⟨rfl,by rw[<-uh HE];exact(uh hI).1,(uh hI).2⟩
end
def J0(g:Nat->Nat)(c:List Nat)(k:Nat):List Nat:=(c.take k).map g++c.drop k
theorem Nb{g:Nat->Nat}{c:List Nat}{k:Nat}(hk:k<c.length):J0 g c (k+1)=(J0 g c k).set k (g (c.getD k 0))/\(J0 g c k).getD k 0=c.getD k 0:=by
 unfold J0;have e:c.drop k=c[k]::c.drop (k+1):=drop_eq_getElem_cons hk;have e0:c.getD k 0=c[k]:=by simp[hk]
 have e2:(c.take (k+1)).map g=(c.take k).map g++[g c[k]]:=by
  rw[take_add_one,getElem?_eq_getElem hk,map_append];rfl
 have e3:((c.take k).map g).length=k:=by simp;omega
 refine⟨?_,?_⟩
 .rw[e2,e,set_append_right _ _ (by omega),e3,Nat.sub_self,set_cons_zero,append_assoc,e0];rfl
 .rw[getD_eq_getElem?_getD,getElem?_append_right (by omega),e3,Nat.sub_self,e,e0];rfl
theorem jE{α:Type}{g:α->Pr->α}{a:α}{l:List Pr}{k:Nat}(hk:k<l.length):(l.take (k+1)).foldl g a=g ((l.take k).foldl g a) (l.getD k ax):=by
 rw[jQ hk,take_add_one,getElem?_eq_getElem hk,foldl_append];rfl
theorem abe:Es []=replicate 49 (Value.int .i64 0):=rfl
theorem abd(w:World):Nu (w.alloc (.cells (Es []).toArray 290)) w.heap.size [] :=
 ⟨ownsRow_lit (base:=0) (e:=290) (size:=49) w (Es []).toArray 1 (zq5 _) (by simp[maxLen]) rfl,d9.nil⟩
section
variable {w:World} {A:Nat} {f:CF} {av ov:Value}
theorem Be(h:Fm w A f av ov)(hO:aq f)(hl:∀p∈f.ap,p.l∈bQ f/\p.r∈bQ f)(ha:f.ap.length<=100000):Calls prog 198 #[.pointer (some ⟨A,0,none⟩)] w λe w'=>e=.returned (.tuple #[])/\Fm w' A (qg f) av ov/\au (aH A av ov) w (aH A av ov) w':=by
 obtain⟨oa,oc,gj,-,-⟩:=aj h.is.ow;subst gj;obtain⟨aa,ac,l5,-,-⟩:=aj h.is.ap;subst l5;obtain⟨w0,mt⟩:∃w0,w0=w.alloc (.cells (Es []).toArray 290):=⟨_,rfl⟩;have tq:Below w.heap.size w w0:=by rw[mt];exact ah w _
 have hN0:Nu w0 w.heap.size []:=by rw[mt];exact abd w
 have h0:=h.below tq;have aL:∀k∈aH A (.slice aa f.ap.length ac) (.slice oa f.ow.length oc),k≠w.heap.size:=λk hk=>by have:=h.lt k hk;omega
 have x0:=h0.is.cls (i:=0) (by omega);have x1:=h0.is.cls (i:=1) (by omega);have x2:=h0.is.cls (i:=2) (by omega);have x3:=h0.is.cls (i:=3) (by omega);have x4:=h0.is.cls (i:=4) (by omega);unfold gZ at x0 x1 x2 x3 x4;have dp:=hO.cl;unfold kP at dp;have hcL:kP f=[f.cl.getD 0 0,f.cl.getD 1 0,f.cl.getD 2 0,f.cl.getD 3 0,f.cl.getD 4 0]:=rfl;obtain⟨y0,e0⟩:∃y,y=f.cl.getD 0 0:=⟨_,rfl⟩;obtain⟨y1,e1⟩:∃y,y=f.cl.getD 1 0:=⟨_,rfl⟩;obtain⟨y2,e2⟩:∃y,y=f.cl.getD 2 0:=⟨_,rfl⟩;obtain⟨y3,e3⟩:∃y,y=f.cl.getD 3 0:=⟨_,rfl⟩;obtain⟨y4,e4⟩:∃y,y=f.cl.getD 4 0:=⟨_,rfl⟩;rw[<-e0,<-e1,<-e2,<-e3,<-e4]at dp hcL;rw[<-e0]at x0;rw[<-e1]at x1;rw[<-e2]at x2;rw[<-e3]at x3;rw[<-e4]at x4;have l0:y0<24:=dp y0 (by simp);have l1:y1<24:=dp y1 (by simp);have l2:y2<24:=dp y2 (by simp);have l3:y3<24:=dp y3 (by simp);have l4:y4<24:=dp y4 (by simp);have j0:=Al (.int .i64 (y0:Int)) (.int .i64 (y1:Int)) (.int .i64 (y2:Int)) (.int .i64 (y3:Int)) (.int .i64 (y4:Int));have j1:=Am (.int .i64 (y0:Int)) (.int .i64 (y1:Int)) (.int .i64 (y2:Int)) (.int .i64 (y3:Int)) (.int .i64 (y4:Int));have j2:=Ao (.int .i64 (y0:Int)) (.int .i64 (y1:Int)) (.int .i64 (y2:Int)) (.int .i64 (y3:Int)) (.int .i64 (y4:Int));have j3:=Ap (.int .i64 (y0:Int)) (.int .i64 (y1:Int)) (.int .i64 (y2:Int)) (.int .i64 (y3:Int)) (.int .i64 (y4:Int));have j4:=Aq (.int .i64 (y0:Int)) (.int .i64 (y1:Int)) (.int .i64 (y2:Int)) (.int .i64 (y3:Int)) (.int .i64 (y4:Int));obtain⟨N,hNe⟩:∃N,N=w.heap.size:=⟨_,rfl⟩;rw[<-hNe]at hN0 aL;have HNe:=ab hNe;have H:=ab h;have H0:=ab h0;have JG:=ab tq;have xe:=ab aL;have wZ:=ab hcL;have iE:=hO.owLen;have HO:=ab hO;have HL:=ab hl;have cG:Hid (Nu w0 N (([y0,y1,y2,y3,y4].take 0).foldl iT [])/\au [N] w0 [N] w0):=ab ⟨hN0,au.refl _ _⟩;clear h h0 e0 e1 e2 e3 e4 dp hcL hO hN0 tq aL hl;obtain⟨ag,hag⟩:∃ag,ag=Value.agg (Es []).toArray:=⟨_,rfl⟩;rw[abe]at mt hag;simp only[replicate]at mt hag;go_enter func198,ntmps198;go_upto_region 1 with fail;rw[<-mt,<-hag,<-hNe];clear mt hNe hag;go_wp2_with fail
 go_loopw [15] (λi wx=>∃(k:Nat),k<=5/\i=.int .i64 k/\Hid (Nu wx N (([y0,y1,y2,y3,y4].take k).foldl iT [])/\au [N] w0 [N] wx)) (λi _=>5-(intOf i).toNat)
 case atStart=>exact⟨0,zq5 _,rfl,cG⟩
 case round =>
  clear cG x0 x1 x2 x3 x4;obtain⟨k,hk,rfl,hI⟩:=hrel;obtain⟨m,hm⟩:∃m,m=([y0,y1,y2,y3,y4].take k).foldl iT []:=⟨_,rfl⟩;have HM:=ab hm;rw[<-hm]at hI;clear hm;have Bw:Hid (∀c:Nat,c<24->Calls prog 223 #[.pointer (some ⟨N,0,none⟩),.int .i64 c] wr λe w'=>e=.returned (.tuple #[])/\Nu w' N (iT m c)/\au [N] w0 [N] w'):=ab (λc hc=>(vU (uh hI).1 hc).mono (λe w' hw=>⟨hw.1,hw.2.1,(uh hI).2.trans hw.2.2⟩));have vp:k=0\/k=1\/k=2\/k=3\/k=4\/k=5:=by omega
  rcases vp with rfl|rfl|rfl|rfl|rfl|rfl
  .go_wp2_with fail
   refine(uh Bw y0 l0).mono ?_;rintro e w1 ⟨rfl,sK,dy⟩;have LL:Hid (Nu w1 N (([y0,y1,y2,y3,y4].take 1).foldl iT [])/\au [N] w0 [N] w1):=ab ⟨by rw[uh HM]at sK;exact sK,dy⟩;clear sK dy;go_wp2_with fail
   go_roundw
   case rel=>exact⟨1,by omega,by go_num,LL⟩
   case measure=>simp[intOf]
  .go_wp2_with fail
   refine(uh Bw y1 l1).mono ?_;rintro e w1 ⟨rfl,sK,dy⟩;have LL:Hid (Nu w1 N (([y0,y1,y2,y3,y4].take 2).foldl iT [])/\au [N] w0 [N] w1):=ab ⟨by rw[uh HM]at sK;exact sK,dy⟩;clear sK dy;go_wp2_with fail
   go_roundw
   case rel=>exact⟨2,by omega,by go_num,LL⟩
   case measure=>simp[intOf]
  .go_wp2_with fail
   refine(uh Bw y2 l2).mono ?_;rintro e w1 ⟨rfl,sK,dy⟩;have LL:Hid (Nu w1 N (([y0,y1,y2,y3,y4].take 3).foldl iT [])/\au [N] w0 [N] w1):=ab ⟨by rw[uh HM]at sK;exact sK,dy⟩;clear sK dy;go_wp2_with fail
   go_roundw
   case rel=>exact⟨3,by omega,by go_num,LL⟩
   case measure=>simp[intOf]
  .go_wp2_with fail
   refine(uh Bw y3 l3).mono ?_;rintro e w1 ⟨rfl,sK,dy⟩;have LL:Hid (Nu w1 N (([y0,y1,y2,y3,y4].take 4).foldl iT [])/\au [N] w0 [N] w1):=ab ⟨by rw[uh HM]at sK;exact sK,dy⟩;clear sK dy;go_wp2_with fail
   go_roundw
   case rel=>exact⟨4,by omega,by go_num,LL⟩
   case measure=>simp[intOf]
  .go_wp2_with fail
   refine(uh Bw y4 l4).mono ?_;rintro e w1 ⟨rfl,sK,dy⟩;have LL:Hid (Nu w1 N (([y0,y1,y2,y3,y4].take 5).foldl iT [])/\au [N] w0 [N] w1):=ab ⟨by rw[uh HM]at sK;exact sK,dy⟩;clear sK dy;go_wp2_with fail
   go_roundw
   case rel=>exact⟨5,by omega,by go_num,LL⟩
   case measure=>simp[intOf]
  .rw[show((5:Nat):Int)=(5:Int) from rfl];have BQ:m=(kP f).foldl iT []:=(by rw[uh HM,uh wZ];rfl);have kE:=(uh H0).is.of_eq (w':=wr) (λj hj=>(uh hI).2.block j ((uh H0).lt j hj) (by simpa using uh xe j hj));have LO:=ab (wG kE (uh hI).1 (uh xe) (uh HO).ow (k0:=0) (by omega));have db:=ab (uh hI).2;rw[BQ]at LO;clear j0 j1 j2 j3 j4 l0 l1 l2 l3 l4 BQ kE hI HM Bw;go_wp2_with fail
   refine(uh LO).mono ?_;rintro e w1 ⟨rfl,sK,dy⟩;have oT:=(uh db).trans dy;have kE:=(uh H0).is.of_eq (w':=w1) (λj hj=>oT.block j ((uh H0).lt j hj) (by simpa using uh xe j hj));have c6:=kE.c6;obtain⟨M1,hM1⟩:∃M1,M1=oV f 25 0 ((kP f).foldl iT []):=⟨_,rfl⟩;have HM1:=ab hM1;rw[<-hM1]at sK;have fs:Hid (Nu w1 N ((f.ow.take 0).foldl (zc f) M1)/\au [N] w0 [N] w1):=ab ⟨sK,oT⟩;clear sK dy oT kE LO hM1 db;go_wp2_with fail
   go_loopw [30] (λi wx=>∃(k:Nat),k<=f.ow.length/\i=.int .i64 k/\Hid (Nu wx N ((f.ow.take k).foldl (zc f) M1)/\au [N] w0 [N] wx)) (λi _=>f.ow.length-(intOf i).toNat)
   case atStart=>exact⟨0,zq5 _,rfl,fs⟩
   case round =>
    clear fs c6;obtain⟨k,hk,rfl,hI⟩:=hrel;have kE:=(uh H0).is.of_eq (w':=wr) (λj hj=>(uh hI).2.block j ((uh H0).lt j hj) (by simpa using uh xe j hj));by_cases ar:k<f.ow.length
    .have hd:decide ((k:Int)<(f.ow.length:Int))=true:=(by simp;omega);obtain⟨g,cap,dQ,-,-⟩:=aE kE.ow ar;simp only[Value.slice.injEq,true_and]at dQ;obtain⟨rfl,rfl⟩:=dQ;obtain⟨x0,x1,x2⟩:=aD kE.ow ar;have mK:=((uh HO).ow _ (bG ar)).1;have qd:=jE (g:=zc f) (a:=M1) ar;obtain⟨p,hp⟩:∃p,p=f.ow.getD k ax:=⟨_,rfl⟩;rw[<-hp]at x0 x1 x2 mK qd;obtain⟨m,hm⟩:∃m,m=(f.ow.take k).foldl (zc f) M1:=⟨_,rfl⟩;rw[<-hm]at hI qd;obtain⟨-,n1,-⟩:=Ga wr (Value.int .i64 p.k) (.int .i64 p.l) (.int .i64 p.r) 182;have RK:=(uh hI).1.below (ah wr (.cells #[Value.int .i64 p.k,.int .i64 p.l,.int .i64 p.r] 182));have Ii:=RK.count;have fy:=RK.ok.len;have Bw:=ab (vU RK mK);have FM:au [N] w0 [N] (wr.alloc (.cells #[Value.int .i64 p.k,.int .i64 p.l,.int .i64 p.r] 182)):=(uh hI).2.trans (au.ofBw (ah wr _));have GP:=ab FM;have LK:=ab qd;have i1:(0:Int)<=(k:Int):=(by omega);have i2:(k:Int)<(f.ow.length:Int):=(by omega);obtain⟨L,hL⟩:∃L,L=m.length:=⟨_,rfl⟩;have HLm:=ab hL;rw[<-hL]at Ii fy;clear hp hm RK FM qd kE hI hL;go_wp2_with fail
     refine(uh Bw).mono ?_;rintro e w2 ⟨rfl,If,gQ⟩;have aaA:=(uh GP).trans gQ;have qb:=(uh H0).is.of_eq (w':=w2) (λj hj=>aaA.block j ((uh H0).lt j hj) (by simpa using uh xe j hj));have LO:=ab (wG qb If (uh xe) (uh HO).ow (k0:=L) fy);have cS:=ab aaA;clear If gQ aaA qb Bw GP n1 Ii;go_wp2_with fail
     refine(uh LO).mono ?_;rintro e w3 ⟨rfl,BI,f8⟩;have HN3:Hid (Nu w3 N ((f.ow.take (k+1)).foldl (zc f) M1)/\au [N] w0 [N] w3):=ab ⟨by
      rw[uh LK];unfold zc;rw[uh HLm]at BI;exact BI,(uh cS).trans f8⟩
     clear BI f8 LO cS;go_wp2_with fail
     go_roundw
     case rel=>exact⟨k+1,by omega,by go_num,HN3⟩
     case measure=>simp[intOf];omega
    .have hd:decide ((k:Int)<(f.ow.length:Int))=false:=(by simp;omega);have kk:k=f.ow.length:=(by omega);have C3:(f.ow.take k).foldl (zc f) M1=b8 f:=(by rw[kk,take_length,uh HM1];rfl);rw[C3]at hI;obtain⟨R,hR⟩:∃R,R=b8 f:=⟨_,rfl⟩;rw[<-hR]at hI;have HR:=ab hR;have hFm:Fm wr A f (.slice aa f.ap.length ac) (.slice oa f.ow.length oc):=(uh H0).of_eq (λj hj=>(uh hI).2.block j ((uh H0).lt j hj) (by simpa using uh xe j hj));have jb:Hid (Fm wr A { f with cl:=J0 (λc=>R.idxOf c) f.cl 0 } (.slice aa f.ap.length ac) (.slice oa f.ow.length oc)/\Nu wr N R/\au (N::aH A (.slice aa f.ap.length ac) (.slice oa f.ow.length oc)) w0 (N::aH A (.slice aa f.ap.length ac) (.slice oa f.ow.length oc)) wr):=ab ⟨by simpa[J0] using hFm,(uh hI).1,(uh hI).2.wide (λj hj=>by rw[mem_singleton]at hj;subst hj;simp)⟩;clear kk C3 hR hFm kE hI;go_wp2_with fail
     go_loopw [8] (λi wx=>∃(k:Nat),k<=5/\i=.int .i64 k/\Hid (Fm wx A { f with cl:=J0 (λc=>R.idxOf c) f.cl k } (.slice aa f.ap.length ac) (.slice oa f.ow.length oc)/\Nu wx N R/\au (N::aH A (.slice aa f.ap.length ac) (.slice oa f.ow.length oc)) w0 (N::aH A (.slice aa f.ap.length ac) (.slice oa f.ow.length oc)) wx)) (λi _=>5-(intOf i).toNat)
     case atStart=>exact⟨0,zq5 _,rfl,jb⟩
     case round =>
      clear jb;obtain⟨k,hk,rfl,hI⟩:=hrel;by_cases ar:k<5
      .have hd:decide ((k:Int)<(5:Int))=true:=(by simp;omega);have aV:=Nb (g:=λc=>R.idxOf c) (c:=f.cl) (k:=k) (by have:=(uh HO).c5;omega);have zZ:=(uh HO).get k;have mC:f.cl.getD k 0∈R:=(by rw[uh HR];exact(q9 (uh HO).ow (uh HO).cl).2.2.1 _ (eQ ar));obtain⟨c,hc⟩:∃c,c=f.cl.getD k 0:=⟨_,rfl⟩;rw[<-hc]at aV zZ mC;have x:wr.cell? ⟨A,k,none⟩=some (.int .i64 (c:Int)):=by
        have:=(uh hI).1.is.cls ar;unfold gZ at this;rw[this];show some (Value.int .i64 (((J0 (λc=>R.idxOf c) f.cl k).getD k 0:Nat):Int))=_;rw[aV.2]
       have fz:wr.frozen? ⟨A,k,none⟩=false:=ownsRow.frozenAt (uh hI).1.is.ob k;have q1:=(uh hI).2.1.fresh zZ;have e1:CC R c=R.idxOf c+1:=(by unfold CC;rw[if_pos mC]);rw[e1]at q1;have pi:=(uh hI).1.setCl k (R.idxOf c) ar;rw[show({ f with cl:=J0 (λc=>R.idxOf c) f.cl k }:CF).cl=J0 (λc=>R.idxOf c) f.cl k from rfl,<-aV.1]at pi;have hAN:A≠N:=uh xe A (by simp[aH]);obtain⟨y,hy⟩:∃y,y=R.idxOf c:=⟨_,rfl⟩;rw[<-hy]at q1 pi;have asw:y<24:=(by rw[hy];exact m8 (uh hI).2.1.ok mC);rw[show((y+1:Nat):Int)=(y:Int)+1 by omega]at q1;have D0:Hid (Fm (wr.setCell ⟨A,k,none⟩ (.int .i64 (y:Int))) A { f with cl:=J0 (λc=>R.idxOf c) f.cl (k+1) } (.slice aa f.ap.length ac) (.slice oa f.ow.length oc)/\Nu (wr.setCell ⟨A,k,none⟩ (.int .i64 (y:Int))) N R/\au (N::aH A (.slice aa f.ap.length ac) (.slice oa f.ow.length oc)) w0 (N::aH A (.slice aa f.ap.length ac) (.slice oa f.ow.length oc)) (wr.setCell ⟨A,k,none⟩ (.int .i64 (y:Int)))):=ab ⟨pi,(uh hI).2.1.of_eq (heap_setCell _ _ _ _ (λe=>hAN e.symm)),(uh hI).2.2.setCell (p:=⟨A,k,none⟩) (zq0 (by simp[aH])) _⟩;have i1:(0:Int)<=(k:Int):=(by omega);have i2:(k:Int)<(5:Int):=(by omega);have i3:(c:Int)<(24:Int):=(by omega);clear aV mC hc e1 pi hy hAN hI;go_wp2_with fail
       go_region
       go_wp2_with fail
       go_roundw
       case rel=>exact⟨k+1,by omega,by go_num,ab ⟨(uh D0).1.of_eq (λ_ _=>rfl),(uh D0).2.1.of_eq rfl,(uh D0).2.2.drew⟩⟩
       case measure=>simp[intOf];omega
      .have hd:decide ((k:Int)<(5:Int))=false:=(by simp;omega);have FA:k=5:=(by omega);have dp:J0 (λc=>R.idxOf c) f.cl k=(kP f).map (λc=>R.idxOf c):=by
        rw[tP (uh HO).c5];unfold J0;have h5:=(uh HO).c5;rw[take_of_length_le (by omega),drop_eq_nil_of_le (by omega),append_nil]
       rw[dp]at hI;have ic:∀c∈bQ f,c∈R:=(by rw[uh HR];exact iQ (uh HO).ow (uh HO).cl (uh HO).lf);have Ed:=(uh hI).1;have c6:=Ed.is.c6;have hNE:=uh xe;have X3:=ab (yt Ed.is.ow (uh hI).2.1 (λe=>hNE N (by simp only[aH,mem_cons,mem_append,Option.mem_toList];exact zq1 (zq1 e)) rfl) (λp hp=>⟨ic _ (mem_append_right _ (mem_flatMap.2 ⟨p,hp,by simp⟩)),ic _ (mem_append_right _ (mem_flatMap.2 ⟨p,hp,by simp⟩))⟩) (zq3 iE (by omega)));have HLV:=ab ic;clear dp FA ic Ed hNE;go_wp2_with fail
       refine(uh X3).mono ?_;rintro e w4 ⟨rfl,BU,vD⟩;obtain⟨rU,agL⟩:=(uh hI).1.newRow (ow':=f.ow.map (jf R)) (by simp) BU vD;have hNE:=uh xe;have Ok:Nu w4 N R:=(uh hI).2.1.of_eq (vD.block N (uh hI).2.1.ltN (λhj=>hNE N (by simp only[aH,mem_cons,mem_append];exact zq1 (zq1 hj)) rfl));have c5:=rU.is.c5;have adB:=ab (yt rU.is.ap Ok (λe=>hNE N (by simp only[aH,mem_cons,mem_append,Option.mem_toList];exact zq1 (zq0 e)) rfl) (λp hp=>⟨uh HLV _ (uh HL p hp).1,uh HLV _ (uh HL p hp).2⟩) ha);have V8:=ab rU;have mA:Hid (au (N::aH A (.slice aa f.ap.length ac) (.slice oa f.ow.length oc)) w0 (N::aH A (.slice aa f.ap.length ac) (.slice oa f.ow.length oc)) w4):=ab ((uh hI).2.2.trans (agL.wide (λj hj=>mem_cons_of_mem _ hj)));clear BU vD rU agL hNE Ok X3;go_wp2_with fail
       refine(uh adB).mono ?_;rintro e w5 ⟨rfl,Ad,qC⟩;obtain⟨CE,Af⟩:=(uh V8).newRowA (ap':=f.ap.map (jf R)) (by simp) Ad qC;have V9:Hid (Fm w5 A (qg f) (.slice aa f.ap.length ac) (.slice oa f.ow.length oc)):=ab (by unfold qg;rw[<-uh HR];exact CE);have s9:Hid (au (aH A (.slice aa f.ap.length ac) (.slice oa f.ow.length oc)) w (aH A (.slice aa f.ap.length ac) (.slice oa f.ow.length oc)) w5):=ab (by
        have h1:=(uh mA).trans (Af.wide (λj hj=>mem_cons_of_mem _ hj));have hb:=uh JG;exact⟨h1.os.trans hb.os,h1.tape.trans hb.tape,h1.output.trans hb.output,zq3 hb.size h1.size,λj hj hn=>(h1.block j (zq6 hj hb.size) (by
         rw[mem_cons,not_or];exact⟨by have:=uh HNe;omega,hn⟩)).trans (hb.block j hj),λj hj=>zq0 hj⟩)
       clear Ad qC CE Af adB;go_wp2_with fail
       go_end0
       exact⟨rfl,uh V9,uh s9⟩
end
theorem Y5(a b c x y z:Int)(w:World):(Op.equalIn 10000 182 (.agg #[.int .i64 a,.int .i64 b,.int .i64 c]) (.agg #[.int .i64 x,.int .i64 y,.int .i64 z])).run prog w=.ok (a==x&&(b==y&&c==z)) w:=by
 have u3:=underlying3;have a3:=Tryz.isAgg3;have z3:=sizeOf3;have hS:prog.underlying 182=some (.struct (prog.fieldsOf 182)):=by kernel_rfl
 have hp:prog.stoodInHeld 182=false:=by kernel_rfl
 rw[show(10000:Nat)=9999+1 from rfl,run_equalIn_agg w 9999 182 _ _ hS hp];simp only[Program.fieldsOf,underlying182];go_simp
 by_cases h1:a=x <;> by_cases h2:b=y <;> by_cases h3:c=z <;> simp[h1,h2,h3]
theorem aha(a b c x y z:Int)(w:World):(binOp .neq 182 (.agg #[.int .i64 a,.int .i64 b,.int .i64 c]) (.agg #[.int .i64 x,.int .i64 y,.int .i64 z])).run prog w=.ok (.bool (!(a==x&&(b==y&&c==z)))) w:=by
 rw[run_neq_struct,Y5];rfl
theorem Oa:prog.eqGuardType prog.depth 182=false:=by kernel_rfl
