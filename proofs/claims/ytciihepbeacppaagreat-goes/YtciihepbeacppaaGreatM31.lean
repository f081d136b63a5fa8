import Derived.Test.YtciihepbeacppaaGreatM30
set_option maxRecDepth 100000
set_option maxHeartbeats 0
namespace Go.Proofs.YtciihepbeacppaaGreat
open Tryz Go.RowKit List World Below
set_option linter.unusedVariables false
theorem FO:∀(l:List Pr) (seen:List Nat),qL seen l=false->(l.map (·.l)).Nodup/\∀p∈l,p.l ∉ seen
 |[],_,_=>⟨nodup_nil,λp hp=>by simp at hp⟩
 |p::l,seen,h=>by
  unfold qL at h;split at h
  .cases h
  .rename_i hn;obtain⟨h1,h2⟩:=FO l _ h;refine⟨?_,λq hq=>?_⟩
   .rw[map_cons,nodup_cons];refine⟨λhm=>?_,h1⟩;obtain⟨q,hq,e⟩:=mem_map.1 hm;exact h2 q hq (by rw[e];exact mem_cons_self)
   .rcases mem_cons.1 hq with rfl|hq
    .exact hn
    .exact λhm=>h2 q hq (mem_cons_of_mem _ hm)
theorem pC{al:List bt}(ht:ij al)(hf:je (bL al)=false):au (bL al):=by
 have hl:=y9 ht;have de:(bL al).cl.length=5:=by show((iY al).take 5).length=5;rw[length_take];omega
 refine au.mk' de (λc hc=>?_) (λp hp=>?_) (λp hp=>?_) ?_ (λp hp=>?_)
 .obtain⟨i,hi,rfl⟩:=mem_iff_getElem.1 hc;have h5:i<5:=by omega
  have h1:=kO (al:=al) h5;rw[bp hi]at h1;rw[h1];have:=j5 ht (i:=i) (by omega);omega
 .obtain⟨a,ha,rfl⟩:=mem_map.1 hp;exact rU ht (mem_filter.1 ha).1
 .obtain⟨a,ha,rfl⟩:=mem_map.1 hp;exact rU ht (mem_filter.1 ha).1
 .unfold je at hf;rw[Bool.or_eq_false_iff]at hf;exact(FO _ _ hf.2).1
 .obtain⟨a,ha,rfl⟩:=mem_map.1 hp;have h1:=(mem_filter.1 ha).2;have h2:a.k=2:=by simpa using h1
  exact h2
theorem lL{f:CF}(h:au f)(nv:Nat):au (sQ f nv):=by
 refine au.mk' (by simp[sQ]) (λc hc=>?_) h.ow h.ap h.lf h.kd;obtain⟨i,-,rfl⟩:=mem_map.1 hc;split <;> exact h.get _
def zP(f:CF)(nv k:Nat):List Nat:=(range 5).map (λi=>if nv<i/\i<k then f.cl.getD 0 0 else f.cl.getD i 0)
theorem fZ(f:CF)(nv k:Nat):(zP f nv k).length=5:=by simp[zP]
theorem rz{f:CF}{nv k i:Nat}(hi:i<5):(zP f nv k).getD i 0=if nv<i/\i<k then f.cl.getD 0 0 else f.cl.getD i 0:=by unfold zP;simp[hi]
theorem IA{f:CF}(h5:f.cl.length=5)(nv:Nat):zP f nv (1+nv)=f.cl:=by
 apply ext_getElem?;intro i;by_cases hi:i<5
 .have h1:=rz (f:=f) (nv:=nv) (k:=1+nv) hi;rw[if_neg (by omega)]at h1;rw[bp (by rw[fZ];exact hi),bp (by omega)]at h1;rw[getElem?_eq_getElem (by rw[fZ];exact hi),getElem?_eq_getElem (by omega),h1]
 .rw[getElem?_eq_none (by rw[fZ];omega),getElem?_eq_none (by omega)]
theorem LS{f:CF}{nv k:Nat}(h1:nv<k)(hk:k<5):(zP f nv k).set k (f.cl.getD 0 0)=zP f nv (k+1):=by
 apply ext_getElem?;intro i;by_cases hi:i<5
 .have g1:=rz (f:=f) (nv:=nv) (k:=k+1) hi;rw[bp (by rw[fZ];exact hi)]at g1;rw[getElem?_eq_getElem (l:=zP f nv (k+1)) (by rw[fZ];exact hi),g1];by_cases e:k=i
  .subst e;rw[getElem?_set_self (by rw[fZ];exact hi),if_pos (by omega)]
  .have g2:=rz (f:=f) (nv:=nv) (k:=k) hi;rw[bp (by rw[fZ];exact hi)]at g2;rw[getElem?_set_ne e,getElem?_eq_getElem (by rw[fZ];exact hi),g2];congr 1;by_cases c1:nv<i/\i<k
   .rw[if_pos c1,if_pos (by omega)]
   .rw[if_neg c1,if_neg (by omega)]
 .rw[getElem?_eq_none (by rw[length_set,fZ];omega),getElem?_eq_none (by rw[fZ];omega)]
theorem Ru(f:CF)(nv:Nat):{ f with cl:=zP f nv 5 }=sQ f nv:=by
 unfold sQ zP;congr 1;apply map_congr_left;intro i hi;rw[mem_range]at hi;by_cases c1:nv<i
 .rw[if_pos c1,if_pos (by omega)]
 .rw[if_neg c1,if_neg (by omega)]
section
variable {w:World} {S:Nat} {c:Cd} {hv kv wv:Value} {KV WV:List Value} {K:List (List En)} {s:Sr}
theorem LX{Q:Nat}{ws:List ByteArray}{ps:PS}{al:List bt}{vv pv nvv:Value}(h:Sh w S c (.pointer (some ⟨Q,0,none⟩)) hv kv wv KV WV K s)(hC:Cp w Q ws ps al vv pv nvv)(fs:c.nds=ps.nodes)(hA:Qu al)(mu:ps.vars.length<=4)(hK0:0<K.length)(vt:K.length<=100000){fuel:Nat}(aY:(fx c fuel ps.vars.length al s).ok=true):
  Calls prog 140 #[.pointer (some ⟨S,0,none⟩)] w λe w'=>e=.returned (.tuple #[])/\fM w S c (.pointer (some ⟨Q,0,none⟩)) hv kv wv KV WV K [] (fx c fuel ps.vars.length al s) w':=by
 have c0:=h.bs.cell 0 rfl;have hQ2:=hC.bk.cell 2 rfl;have gz:=h.nl;obtain⟨na,nc,zY,-,-⟩:=ah hC.nr;subst zY;obtain⟨va,vc,q7,-,-⟩:=ah hC.vr;subst q7;have QH:=ab (Wh hC.pr hA.tm hA.le hA.bd);have dl:ps.nodes.length=K.length:=by rw[<-fs];exact gz
 have H:=ab h;have HC:=ab hC;have HTM:=ab hA.tm;have ag9:=ab hA.le;have kj:=ab aY;obtain⟨V,hV⟩:∃V,V=ps.vars.length:=⟨_,rfl⟩;have KA:Hid (fx c fuel ps.vars.length al s=if je (bL al)=true then s else eo c fuel (K.length-1) 0 (bJ (sQ (bL al) V)) s):=ab (by unfold fx;rw[gz,hV]);obtain⟨dQ,cW⟩:∃dQ:World->Prop,dQ=λw'=>fM w S c (.pointer (some ⟨Q,0,none⟩)) hv kv wv KV WV K [] (fx c fuel ps.vars.length al s) w':=⟨_,rfl⟩;have eU:=ab cW;rw[show(fun(e:Ending) (w':World)=>e=.returned (.tuple #[])/\fM w S c (.pointer (some ⟨Q,0,none⟩)) hv kv wv KV WV K [] (fx c fuel ps.vars.length al s) w')=(λe w'=>e=.returned (.tuple #[])/\dQ w') by rw[cW]];clear h hC fs hA aY cW gz;go_enter func140,ntmps140;go_wp2_with fail
 refine(uh QH).mono ?_;rintro e w1 ⟨A,fav,fov,rfl,hF,bZ,aO,cH⟩;have hrm:=Vj (uh HTM);have CL:(bL al).cl.getD 0 0<24:=by
  have h1:=j5 (uh HTM) (i:=0) (by omega);rw[kO (by omega)];omega
 have C6:=ab (IC hF hrm CL);have H1:=ab (zq2 hF (zq2 bZ (zq2 aO cH)));clear hF bZ aO cH hrm CL QH c0 hQ2;cases qT:je (bL al)
 .rw[qT]at C6;have MZ:=pC (uh HTM) qT;have Ic:Hid (fx c fuel ps.vars.length al s=eo c fuel (K.length-1) 0 (bJ (sQ (bL al) V)) s):=ab (by rw[uh KA,qT,if_neg (by decide)]);obtain⟨f,hf⟩:∃f,f=bL al:=⟨_,rfl⟩;rw[<-hf]at MZ Ic H1;have Qv:Hid (f.ap.length<=100000):=ab (by
   have h3:f.ap.length<=al.length:=by
    rw[hf];show((al.filter _).map _).length<=_;rw[length_map];exact length_filter_le _ _
   have h4:=uh ag9;omega)
  have WF:=ab MZ;clear qT KA hf MZ;go_wp2_with fail
  refine(uh C6).mono ?_;rintro e w2 ⟨rfl,ax⟩;obtain⟨hF,bZ,aO,cH⟩:=uh H1;have rH:=aO.trans (ax.mono aO.size);have mE:Fm w2 A f fav fov:=⟨hF.below ax,cH,(uh WF).c5⟩;have H2:=ab (zq2 rH (zq2 mE bZ));have tf:=(uh HC).below rH;have ce:=(uh H).below rH;have e0:=ce.bs.cell 0 rfl;have q1:=tf.bk.cell 1 rfl;rw[<-hV]at q1 mu;have bR:Hid (Fm w2 A { f with cl:=zP f V (1+V) } fav fov/\Below w.heap.size w w2):=ab ⟨by rw[IA (uh WF).c5];exact mE,rH⟩;clear hF bZ aO cH rH mE tf ce ax C6;go_wp2_with fail
  go_loopg [3] (4-V) (λgn iv wx=>∃(k:Nat),k+gn=5/\1+V<=k/\iv=.int .i64 k/\Hid (Fm wx A { f with cl:=zP f V k } fav fov/\Below w.heap.size w wx))
  case atStart=>exact⟨1+V,by omega,by omega,by go_num,bR⟩
  case round =>
   clear bR e0 q1;obtain⟨k,fC,hkV,rfl,hI⟩:=hrel;obtain⟨G1,wK⟩:∃G1,G1=gk:=⟨_,rfl⟩;by_cases ar:k<5
   .have hd:decide ((k:Int)<(5:Int))=true:=(by simp;omega);have hF:=(uh hI).1;have x0:=hF.is.cls (i:=0) (by omega);have e00:({ f with cl:=zP f V k }:CF).cl.getD 0 0=f.cl.getD 0 0:=by
     show(zP f V k).getD 0 0=_;rw[rz (by omega),if_neg (by omega)]
    unfold eR at x0;rw[e00]at x0;have xk:=hF.is.cls (i:=k) ar;have xz:=ownsRow.frozenAt hF.is.ob k;have h3:=hF.setCl k (f.cl.getD 0 0) ar;have e1:({ ({ f with cl:=zP f V k }:CF) with cl:=({ f with cl:=zP f V k }:CF).cl.set k (f.cl.getD 0 0) }:CF)={ f with cl:=zP f V (k+1) }:=by
     show({ f with cl:=(zP f V k).set k (f.cl.getD 0 0) }:CF)=_;rw[LS (by omega) ar]
    rw[e1]at h3;have hAw:w.heap.size<=A:=(uh H2).2.2 A (by simp[aG]);obtain⟨cz,hcz⟩:∃cz,cz=f.cl.getD 0 0:=⟨_,rfl⟩;rw[<-hcz]at x0 h3;have HN:=ab (zq2 h3 ((uh hI).2.setCell (p:=⟨A,k,none⟩) hAw (.int .i64 (cz:Int))));have k1:(0:Int)<=(k:Int):=(by omega);have k2:(k:Int)<5:=(by omega);clear hF e00 h3 e1 hcz hI;go_upto_region 5 with fail;go_region
    all_goals
     go_wp2_with fail
     go_roundg (G1-1)
     case rel=>exact⟨k+1,by omega,by omega,by go_num,ab ⟨(uh HN).1.of_eq (λ_ _=>rfl),⟨(uh HN).2.os,(uh HN).2.tape,(uh HN).2.output,(uh HN).2.size,(uh HN).2.block⟩⟩⟩
     case measure=>omega
   .have hd:decide ((k:Int)<(5:Int))=false:=(by simp;omega);have D8:k=5:=(by omega);obtain⟨hF,hb⟩:=uh hI;rw[D8,Ru]at hF;have Qc:=lL (uh WF) V;have Fp:=ab (jK hF Qc (uh Qv));have HI:=ab hb;have HFE:=ab Qc;clear hF hb Qc hI D8;go_wp2_with fail
    refine(uh Fp).mono ?_;rintro e w4 ⟨rfl,av4,ov4,pL,dA⟩;have bZ:=(uh H2).2.2;have Kk:fL w w4 (cD S hv kv wv KV WV) (cD S hv kv wv KV WV) (dK K) (dK K) []:=(fL.below (X:=[]) (uh HI)).trans (fL.stp (X:=aG A fav fov) dA (λq hq=>zq1 hq)) (λq hq=>zq1 (bZ q hq));have eT:∀q,q<w.heap.size->w4.heap[q]?=w.heap[q]?:=λq hq=>(dA.block q (zq6 hq (uh HI).size) (λe=>by have:=bZ q e;omega)).trans ((uh HI).block q hq);have eG:=(uh H).of_eq (λq hq=>eT q ((uh H).lt q hq)) (λq hq=>eT q ((uh H).drlt q hq));have VF:=(uh HC).of_eq (λq hq=>eT q ((uh HC).lt q hq));have e0:=eG.bs.cell 0 rfl;have q3:=VF.bk.cell 3 rfl;rw[dl]at q3;have SD:∀q∈aG A av4 ov4,w.heap.size<=q:=λq hq=>by
     rcases dA.foot q hq with p|p
     .exact bZ q p
     .exact zq3 (uh HI).size p
    have aes:(eo c fuel (K.length-1) 0 (bJ (sQ f V)) s).ok=true:=(by rw[<-uh Ic];exact uh kj);obtain⟨m,hm⟩:∃m,m=K.length-1:=⟨_,rfl⟩;have Qw:=ab (pA (x:=⟨A,bJ (sQ f V),av4,ov4⟩) eG pL (uh HFE).tidy (λq hq=>⟨λe=>by have:=(uh H).lt q e;have:=SD q hq;omega,λe=>by have:=(uh H).drlt q e;have:=SD q hq;omega⟩) (a:=K.length-1) (n:=0) (by omega) hK0 vt aes);have HG4:=ab (zq2 Kk SD);rw[<-hm]at Qw Ic;have hqm:IntKind.i64.wrap ((K.length:Int)-1)=(m:Int):=(by rw[IntKind.wrap_i64];omega);clear pL dA Kk eT eG VF SD aes hm Fp bZ;go_wp2_with fail
    refine(uh Qw).mono ?_;rintro e w5 ⟨rfl,KV',K',p1,p2,p3⟩;have HP:Hid (dQ w5):=ab (by
     rw[uh eU,uh Ic];exact⟨KV',K',p1,p2,(uh HG4).1.trans p3 (λq hq=>zq1 ((uh HG4).2 q hq))⟩)
    clear p1 p2 p3 Qw;go_wp2_with fail
    go_end0
    exact⟨rfl,uh HP⟩
 .rw[qT]at C6;have Ic:Hid (fx c fuel ps.vars.length al s=s):=ab (by rw[uh KA,qT,if_pos rfl]);clear qT KA;go_wp2_with fail
  refine(uh C6).mono ?_;rintro e w2 ⟨rfl,ax⟩;have HP:Hid (dQ w2):=ab (by
   rw[uh eU,uh Ic];have rH:=(uh H1).2.2.1.trans (ax.mono (uh H1).2.2.1.size);exact⟨KV,K,(uh H).below rH,rfl,fL.below rH⟩)
  clear ax C6;go_wp2_with fail
  refine bodyPost_ret (results_none rfl _ _ _) rfl ?_;exact⟨rfl,uh HP⟩
end
theorem infoAl:(prog.info? 82).map (λi=>(i.zero,i.size,i.bytes))=some (some (.agg #[.int .i64 0,.int .i64 0]),2,16):=by kernel_rfl
theorem infoFs:(prog.info? 125).map (λi=>(i.zero,i.size,i.bytes))=some (some (.slice none 0 0),1,24):=by kernel_rfl
def Vg(l:List (Nat × Nat)):List Value:=l.flatMap (λp=>[.int .i64 (p.1:Int),.int .i64 (p.2:Int)])
theorem QW(l m:List (Nat × Nat)):Vg (l++m)=Vg l++Vg m:=by unfold Vg;rw[flatMap_append]
def rd(RB:Nat)(av kv:Value)(FV:List Value):List (Option Nat):=some RB::av.ownBlock::kv.ownBlock::FV.map Value.ownBlock
structure Rz(w W:World)(RB vd:Nat)(av kv:Value)(al:List (Nat × Nat))(FV:List Value)(L:List (List FE)):Prop where
 bk:Bk W RB 118 [.int .i64 (vd:Int),av,kv]
 al:W.ownsRow 0 82 2 av al.length (Vg al)
 kr:W.ownsRow 0 125 1 kv L.length FV
 ke:∀i,i<L.length->W.ownsRow 0 126 1 (FV.getD i aH) (L.getD i []).length ((L.getD i []).map FE.p)
 ap:Apt (rd RB av kv FV)
 ge:∀k∈RP (rd RB av kv FV),w.heap.size<=k
 bl:Below w.heap.size w W
section
variable {w W W' W1:World} {RB vd:Nat} {av kv:Value} {al:List (Nat × Nat)} {FV:List Value} {L:List (List FE)}
theorem EU{i:Nat}(hi:i<FV.length):(rd RB av kv FV)[3+i]?=some (FV.getD i aH).ownBlock:=by
 unfold rd;rw[show 3+i=i+1+1+1 by omega];simp only[getElem?_cons_succ];simp[hi]
theorem xu{i k:Nat}(h:(rd RB av kv FV)[i]?=some (some k)):i=0/\k=RB\/i=1/\av.ownBlock=some k\/i=2/\kv.ownBlock=some k\/∃j,j<FV.length/\i=3+j/\(FV.getD j aH).ownBlock=some k:=by
 unfold rd at h;match i with
 |0=>left;simpa[eq_comm] using h
 |1=>right;left;simpa using h
 |2=>right;right;left;simpa using h
 |i+3 =>
  right;right;right;simp only[getElem?_cons_succ]at h;have hl:i<FV.length:=by
   have:=(List.getElem?_eq_some_iff.1 h).1;simpa using this
  exact⟨i,hl,by omega,by simpa[hl] using h⟩
theorem Rz.fl(h:Rz w W RB vd av kv al FV L):FV.length=L.length:=by have:=h.kr.1;omega
theorem Rz.lt(h:Rz w W RB vd av kv al FV L):∀k∈RP (rd RB av kv FV),k<W.heap.size:=by
 intro k hk;obtain⟨i,hi⟩:=aP.1 hk;rcases xu hi with⟨-,rfl⟩|⟨-,e⟩|⟨-,e⟩|⟨j,hj,-,e⟩
 .exact h.bk.lt
 .exact(h.al.lt k e).2
 .exact(h.kr.lt k e).2
 .exact((h.ke j (by rw[<-h.fl];exact hj)).lt k e).2
theorem Rz.of_eq(h:Rz w W RB vd av kv al FV L)(he:∀k∈RP (rd RB av kv FV),W'.heap[k]?=W.heap[k]?)(hb:Below w.heap.size w W'):Rz w W' RB vd av kv al FV L:=by
 have hf:=h.fl;exact⟨h.bk.of_eq (he RB (aP.2 ⟨0,rfl⟩)),ae h.al (λk hk=>he k (aP.2 ⟨1,congrArg some hk⟩)),ae h.kr (λk hk=>he k (aP.2 ⟨2,congrArg some hk⟩)),λi hi=>ae (h.ke i hi) (λk hk=>he k (aP.2 ⟨_,(EU (by omega)).trans (congrArg some hk)⟩)),h.ap,h.ge,hb⟩
theorem Rz.below(h:Rz w W RB vd av kv al FV L)(hb:Below W.heap.size W W'):Rz w W' RB vd av kv al FV L:=h.of_eq (λk hk=>hb.block k (h.lt k hk)) (h.bl.trans (hb.mono h.bl.size))
theorem Rz.verd(h:Rz w W RB vd av kv al FV L):Rz w (W.setCell ⟨RB,0,none⟩ (.int .i64 1)) RB 1 av kv al FV L:=by
 have hf:=h.fl;have aM:∀p k,p≠0->(rd RB av kv FV)[p]?=some (some k)->(W.setCell ⟨RB,0,none⟩ (.int .i64 1)).heap[k]?=W.heap[k]?:=λp k hp hk=>heap_setCell _ _ _ _ (λe=>hp (h.ap p 0 k hk (by rw[show k=RB from e];rfl)));exact⟨h.bk.set 0 (.int .i64 1),ae h.al (λk hk=>aM 1 k (by omega) (congrArg some hk)),ae h.kr (λk hk=>aM 2 k (by omega) (congrArg some hk)),λi hi=>ae (h.ke i hi) (λk hk=>aM _ k (by omega) ((EU (by omega)).trans (congrArg some hk))),h.ap,h.ge,h.bl.setCell (p:=⟨RB,0,none⟩) (h.ge RB (aP.2 ⟨0,rfl⟩)) _⟩
theorem Rz.alarm(h:Rz w W RB vd av kv al FV L){p:Nat × Nat}{g c:Nat}(aN:W1.ownsRow 0 82 2 (.slice (some ⟨g,0,none⟩) (al.length+1) c) (al.length+1) (Vg al++[.int .i64 (p.1:Int),.int .i64 (p.2:Int)]))(hg:W.grownBy W1 av.ownBlock)(b7:some g=av.ownBlock\/g=W.heap.size):
  Rz w (W1.setCell ⟨RB,1,none⟩ (.slice (some ⟨g,0,none⟩) (al.length+1) c)) RB vd (.slice (some ⟨g,0,none⟩) (al.length+1) c) kv (al++[p]) FV L/\Bk W1 RB 118 [.int .i64 (vd:Int),av,kv]:=by
 have hf:=h.fl;have ts:∀q k,q≠1->(rd RB av kv FV)[q]?=some (some k)->W1.heap[k]?=W.heap[k]?:=λq k hq hk=>hg.block k (h.lt k (aP.2 ⟨q,hk⟩)) (λe=>hq (h.ap q 1 k hk (congrArg some e.symm)));have hgR:g≠RB:=λe=>by
  rcases b7 with q|q
  .have:=h.ap 1 0 RB (by rw[<-e];exact congrArg some q.symm) rfl;omega
  .have:=h.bk.lt;omega
 have aM:∀q k,q≠0->q≠1->(rd RB av kv FV)[q]?=some (some k)->(W1.setCell ⟨RB,1,none⟩ (.slice (some ⟨g,0,none⟩) (al.length+1) c)).heap[k]?=W.heap[k]?:=λq k h0 h1 hk=>(heap_setCell _ _ _ _ (λe=>h0 (h.ap q 0 k hk (by rw[show k=RB from e];rfl)))).trans (ts q k h1 hk);have fB:=h.bk.of_eq (ts 0 RB (by omega) rfl);have cf:rd RB (.slice (some ⟨g,0,none⟩) (al.length+1) c) kv FV=(rd RB av kv FV).set 1 (some g):=rfl;refine⟨⟨fB.set 1 _,?_,ae h.kr (λk hk=>aM 2 k (by omega) (by omega) (congrArg some hk)),λi hi=>ae (h.ke i hi) (λk hk=>aM _ k (by omega) (by omega) ((EU (by omega)).trans (congrArg some hk))),?_,λk hk=>?_,?_⟩,fB⟩
 .rw[length_append,length_singleton,QW];exact a8 aN (p:=⟨RB,1,none⟩) (by show some g≠some RB;intro e;injection e with e;exact hgR e) _
 .rw[cf];refine h.ap.set 1 (λk hk=>?_);injection hk with hk;subst hk;rcases b7 with q|q
  .exact zq0 (congrArg some q.symm)
  .exact zq1 (λj hj=>by have:=h.lt g (aP.2 ⟨j,hj⟩);omega)
 .obtain⟨i,hi⟩:=aP.1 hk;rw[cf,getElem?_set]at hi;split at hi
  .split at hi
   .simp only[Option.some.injEq]at hi;subst hi;rcases b7 with q|q
    .exact h.ge g (aP.2 ⟨1,congrArg some q.symm⟩)
    .have:=h.bl.size;omega
   .simp at hi
  .exact h.ge k (aP.2 ⟨i,hi⟩)
 .refine(h.bl.grown hg h.bl.size (λk hk=>h.ge k (aP.2 ⟨1,congrArg some hk⟩))).setCell (p:=⟨RB,1,none⟩) (h.ge RB (aP.2 ⟨0,rfl⟩)) _
theorem Rz.know{n kB kC:Nat}{x:FE}(h:Rz w W RB vd av kv al FV L)(hn:n<L.length)(Bl:kv=.slice (some ⟨kB,0,none⟩) L.length kC){g c:Nat}(aN:W1.ownsRow 0 126 1 (.slice (some ⟨g,0,none⟩) ((L.getD n []).length+1) c) ((L.getD n []).length+1) ((L.getD n []).map FE.p++[x.p]))(hg:W.grownBy W1 (FV.getD n aH).ownBlock)(b7:some g=(FV.getD n aH).ownBlock\/g=W.heap.size):
  Rz w (W1.setCell ⟨kB,n,none⟩ (.slice (some ⟨g,0,none⟩) ((L.getD n []).length+1) c)) RB vd av kv al (FV.set n (.slice (some ⟨g,0,none⟩) ((L.getD n []).length+1) c)) (L.set n (L.getD n []++[x]))/\W1.ownsRow 0 125 1 kv L.length FV/\Bk W1 RB 118 [.int .i64 (vd:Int),av,kv]:=by
 have hf:=h.fl;obtain⟨v,hv⟩:∃v,v=Value.slice (some ⟨g,0,none⟩) ((L.getD n []).length+1) c:=⟨_,rfl⟩;have S4:v.ownBlock=some g:=by rw[hv];rfl
 rw[<-hv]at aN ⊢;have kH:(rd RB av kv FV)[2]?=some (some kB):=by rw[Bl];rfl
 have fC:(rd RB av kv FV)[3+n]?=some (FV.getD n aH).ownBlock:=EU (by omega);have ts:∀q k,q≠3+n->(rd RB av kv FV)[q]?=some (some k)->W1.heap[k]?=W.heap[k]?:=λq k hq hk=>hg.block k (h.lt k (aP.2 ⟨q,hk⟩)) (λe=>hq (h.ap q (3+n) k hk (fC.trans (congrArg some e.symm))));have Kl:g≠kB:=λe=>by
  rcases b7 with q|q
  .have:=h.ap (3+n) 2 kB (by rw[fC,<-q,e]) kH;omega
  .have:=h.lt kB (aP.2 ⟨2,kH⟩);omega
 have aM:∀q k,q≠2->q≠3+n->(rd RB av kv FV)[q]?=some (some k)->(W1.setCell ⟨kB,n,none⟩ v).heap[k]?=W.heap[k]?:=λq k h0 h1 hk=>(heap_setCell _ _ _ _ (λe=>h0 (h.ap q 2 k hk (by rw[show k=kB from e];exact kH)))).trans (ts q k h1 hk);have Qf:W1.ownsRow 0 125 1 kv L.length FV:=ae h.kr (λk hk=>ts 2 k (by omega) (congrArg some hk));have cf:rd RB av kv (FV.set n v)=(rd RB av kv FV).set (3+n) (some g):=by
  unfold rd;rw[show 3+n=n+1+1+1 by omega];simp only[set_cons_succ];rw[map_set,S4]
 have hLs:(L.set n (L.getD n []++[x])).length=L.length:=length_set;refine⟨⟨h.bk.of_eq (aM 0 RB (by omega) (by omega) rfl),ae h.al (λk hk=>aM 1 k (by omega) (by omega) (congrArg some hk)),?_,λi hi=>?_,?_,λk hk=>?_,?_⟩,Qf,h.bk.of_eq (ts 0 RB (by omega) rfl)⟩
 .rw[hLs];rw[Bl]at Qf ⊢;exact(Qf.stored n v).1
 .rw[hLs]at hi;by_cases e:i=n
  .subst e;have e1:(FV.set i v).getD i aH=v:=(by rw[getD_eq_getElem?_getD,getElem?_set_self (by omega)];rfl);have e2:(L.set i (L.getD i []++[x])).getD i []=L.getD i []++[x]:=(by rw[getD_eq_getElem?_getD,getElem?_set_self (by omega)];rfl);rw[e1,e2,length_append,length_singleton,map_append];exact a8 aN (p:=⟨kB,i,none⟩) (by rw[S4];intro e;injection e with e;exact Kl e) _
  .have e1:(FV.set n v).getD i aH=FV.getD i aH:=(by rw[getD_eq_getElem?_getD,getElem?_set_ne (λe'=>e e'.symm),<-getD_eq_getElem?_getD]);have e2:(L.set n (L.getD n []++[x])).getD i []=L.getD i []:=(by rw[getD_eq_getElem?_getD,getElem?_set_ne (λe'=>e e'.symm),<-getD_eq_getElem?_getD]);rw[e1,e2];exact ae (h.ke i hi) (λk hk=>aM _ k (by omega) (by omega) ((EU (by omega)).trans (congrArg some hk)))
 .rw[cf];refine h.ap.set _ (λk hk=>?_);injection hk with hk;subst hk;rcases b7 with q|q
  .exact zq0 (by rw[fC,<-q])
  .exact zq1 (λj hj=>by have:=h.lt g (aP.2 ⟨j,hj⟩);omega)
 .obtain⟨i,hi⟩:=aP.1 hk;rw[cf,getElem?_set]at hi;split at hi
  .split at hi
   .simp only[Option.some.injEq]at hi;subst hi;rcases b7 with q|q
    .exact h.ge g (aP.2 ⟨3+n,by rw[fC,<-q]⟩)
    .have:=h.bl.size;omega
   .simp at hi
  .exact h.ge k (aP.2 ⟨i,hi⟩)
 .exact(h.bl.grown hg h.bl.size (λk hk=>h.ge k (aP.2 ⟨3+n,fC.trans (congrArg some hk)⟩))).setCell (p:=⟨kB,n,none⟩) (h.ge kB (aP.2 ⟨2,kH⟩)) _
end
def alN(wr:List (List Bool))(n:Nat):List (Nat × Nat):=([2,3,4].filter (λk=>(wr.getD n []).getD k false)).map (λk=>(n,k))
def lH(wr:List (List Bool))(k:Nat):List (Nat × Nat):=(range k).flatMap (alN wr)
theorem Ar(wr:List (List Bool))(k:Nat):lH wr (k+1)=lH wr k++alN wr k:=by unfold lH;rw[range_succ,flatMap_append];simp
theorem QX(wr:List (List Bool)):lH wr wr.length=Xm wr:=rfl
def wj(wr:List (List Bool))(n t:Nat):List (Nat × Nat):=([2,3,4].filter (λk=>decide (k<t)&&(wr.getD n []).getD k false)).map (λk=>(n,k))
theorem KX(wr:List (List Bool))(n:Nat){t:Nat}(h2:2<=t)(h5:t<5):wj wr n (t+1)=wj wr n t++if (wr.getD n []).getD t false=true then [(n,t)] else []:=by
 have:t=2\/t=3\/t=4:=by omega
 unfold wj;cases b2:(wr.getD n []).getD 2 false <;> cases b3:(wr.getD n []).getD 3 false <;> cases b4:(wr.getD n []).getD 4 false <;> rcases this with rfl|rfl|rfl <;> simp only[filter_cons,b2,b3,b4,filter_nil] <;> rfl
theorem QY(wr:List (List Bool))(n:Nat):wj wr n 2=[]:=by unfold wj;simp
theorem As(wr:List (List Bool))(n:Nat):wj wr n 5=alN wr n:=by
 unfold wj alN;congr 1
theorem Fz(wr:List (List Bool))(n t:Nat):(wj wr n t).length<=3:=by
 unfold wj;rw[length_map];exact zq3 (length_filter_le _ _) (by simp)
theorem Fy(wr:List (List Bool)):∀k,(lH wr k).length<=3*k
 |0=>by simp[lH]
 |k+1=>by
  rw[Ar,length_append,<-As];have h1:=Fy wr k;have h2:=Fz wr k 5;omega
def C2(al:List (Nat × Nat)):Nat:=if al=[] then 0 else 1
