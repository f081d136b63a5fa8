import Derived.Test.YtciihepbeacppaaGreatM28
set_option maxRecDepth 100000
set_option maxHeartbeats 0
namespace Go.Proofs.YtciihepbeacppaaGreat
open Tryz Go.RowKit List World Below
set_option linter.unusedVariables false
def ovV(o:Option Int):Value:=.int .i64 (o.getD (-1))
def Nv(f:Nat)(val:List (Option Int))(X o:Nat)(uv:Value)(n:Nat):List Value:=kA f::(val.map ovV++[.pointer (some ⟨X,o,none⟩),uv,.int .i64 (n:Int)])
def Qs(fr:List Bool):List Value:=fr.map (λb=>Value.bool (!b))
structure HL where
 q:Nat
 f:Nat
 X:Nat
 o:Nat
 uv:Value
 hv:Value
 av:Value
 ov:Value
def HL.fp(y:HL):List Nat:=y.q::y.uv.ownBlock.toList
structure Hw(w:World)(y:HL)(F:CF)(l:List (Int × Int))(val:List (Option Int))(fr:List Bool):Prop where
 bk:Bk w y.q 234 (Nv y.f val y.X y.o y.uv (fr.count true))
 lv:val.length=24
 us:w.ownsRow 0 4 1 y.uv fr.length (Qs fr)
 nd:y.uv.ownBlock≠some y.q
 ff:dm w y.f F y.av y.ov
 hc:w.cell? ⟨y.X,y.o,none⟩=some y.hv
 hr:w.ownsRow 0 231 2 y.hv l.length (dD l)
 srt:ky l
 df:∀k∈aG y.f y.av y.ov,k ∉ y.fp
 dX:y.X ∉ y.fp
 dh:∀k,y.hv.ownBlock=some k->k ∉ y.fp
 lf:fr.length=l.length
 ll:l.length<=100000
 vn:∀c a,val.getD c none=some a->0<=a
structure FOk(F:CF):Prop where
 ap:∀p∈F.ap,p.l<24/\p.r<24
 ow:∀p∈F.ow,p.l<24/\p.r<24
 la:F.ap.length<=1000
 lo:F.ow.length<=1000
section
variable {w w':World} {y:HL} {F:CF} {l:List (Int × Int)} {val:List (Option Int)} {fr:List Bool}
theorem Hw.c0(h:Hw w y F l val fr):w.cell? ⟨y.q,0,none⟩=some (.pointer (some ⟨y.f,0,none⟩)):=h.bk.cell 0 rfl
theorem Hw.cv(h:Hw w y F l val fr){c:Nat}(hc:c<24):w.cell? ⟨y.q,1+c,none⟩=some (.int .i64 ((val.getD c none).getD (-1))):=by
 refine h.bk.cell (1+c) ?_;have hl:=h.lv;unfold Nv;rw[Nat.add_comm,getElem?_cons_succ,getElem?_append_left (by simp;omega),getElem?_map];have:c<val.length:=by omega
 simp[this,ovV]
theorem tu(hl:val.length=24)(f X o:Nat)(uv:Value)(n j:Nat):(Nv f val X o uv n)[25+j]?=[Value.pointer (some ⟨X,o,none⟩),uv,.int .i64 (n:Int)][j]?:=by
 unfold Nv;rw[show 25+j=(24+j)+1 by omega,getElem?_cons_succ,getElem?_append_right (by simp;omega)];simp[hl]
theorem Hw.c25(h:Hw w y F l val fr):w.cell? ⟨y.q,25,none⟩=some (.pointer (some ⟨y.X,y.o,none⟩)):=h.bk.cell 25 (tu h.lv _ _ _ _ _ 0)
theorem Hw.c26(h:Hw w y F l val fr):w.cell? ⟨y.q,26,none⟩=some y.uv:=h.bk.cell 26 (tu h.lv _ _ _ _ _ 1)
theorem Hw.c27(h:Hw w y F l val fr):w.cell? ⟨y.q,27,none⟩=some (.int .i64 ((fr.count true:Nat):Int)):=h.bk.cell 27 (tu h.lv _ _ _ _ _ 2)
theorem Hw.of_eq(h:Hw w y F l val fr)(he:∀k,k<w.heap.size->w'.heap[k]?=w.heap[k]?):Hw w' y F l val fr :=
 ⟨h.bk.of_eq (he _ h.bk.lt),h.lv,ae h.us (λk hk=>he k (h.us.lt k hk).2),h.nd,h.ff.of_eq (λk hk=>he k (h.ff.lt k hk)),(cell?_of_block (a:=⟨y.X,y.o,none⟩) (he _ (block_lt_of_cell? w _ h.hc))).trans h.hc,ae h.hr (λk hk=>he k (h.hr.lt k hk).2),h.srt,h.df,h.dX,h.dh,h.lf,h.ll,h.vn⟩
theorem Hw.below(h:Hw w y F l val fr)(hb:Below w.heap.size w w'):Hw w' y F l val fr:=h.of_eq (λk hk=>hb.block k hk)
theorem Hw.setQ(h:Hw w y F l val fr){j:Nat}{u:Value}{val':List (Option Int)}(hq:(Nv y.f val y.X y.o y.uv (fr.count true)).set j u=Nv y.f val' y.X y.o y.uv (fr.count true))(h1:val'.length=24)(h2:∀c a,val'.getD c none=some a->0<=a):Hw (w.setCell ⟨y.q,j,none⟩ u) y F l val' fr:=by
 have hb:=h.bk.set j u;rw[hq]at hb;have ho:∀k,k≠y.q->(w.setCell ⟨y.q,j,none⟩ u).heap[k]?=w.heap[k]?:=λk hk=>heap_setCell _ _ _ _ (λe=>hk e);have YE:∀k,k ∉ y.fp->k≠y.q:=λk hk e=>hk (by simp[HL.fp,e]);exact⟨hb,h1,ae h.us (λk hk=>ho k (by rintro rfl;exact h.nd hk)),h.nd,h.ff.of_eq (λk hk=>ho k (YE k (h.df k hk))),(cell?_of_block (a:=⟨y.X,y.o,none⟩) (ho _ (YE _ h.dX))).trans h.hc,ae h.hr (λk hk=>ho k (YE k (h.dh k hk))),h.srt,h.df,h.dX,h.dh,h.lf,h.ll,h2⟩
theorem Hw.setV(h:Hw w y F l val fr){c:Nat}(hc:c<24)(a:Option Int)(ha:∀b,a=some b->0<=b):Hw (w.setCell ⟨y.q,1+c,none⟩ (.int .i64 (a.getD (-1)))) y F l (val.set c a) fr:=by
 refine h.setQ (val':=val.set c a) ?_ (by simpa using h.lv) ?_
 .unfold Nv;rw[show 1+c=c+1 by omega,set_cons_succ,set_append_left _ _ (by simpa[h.lv] using hc),map_set];rfl
 .intro d b hd;rw[gZ]at hd;split at hd
  .exact ha b hd
  .exact h.vn d b hd
def dfO(oa ob:Option Int):Bool:=match oa with|none=>true|some a=>ob != some a
def yd(val:List (Option Int))(p:Pr):Bool:=p.l != p.r&&dfO (val.getD p.l none) (val.getD p.r none)
theorem AI{ap:List Pr}{k:Nat}(hk:k<ap.length)(h:yd val ap[k]=false):Iy ap val=false:=by
 unfold Iy;rw[all_eq_false];exact⟨ap[k],getElem_mem hk,by
  have:yd val ap[k]≠true:=by rw[h];simp
  exact this⟩
theorem Rq{ap:List Pr}(h:∀j,(hj:j<ap.length)->yd val ap[j]=true):Iy ap val=true:=by
 unfold Iy;rw[all_eq_true];intro p hp;obtain⟨k,hk,rfl⟩:=mem_iff_getElem.1 hp;exact h k hk
theorem I5(h:Hw w y F l val fr)(hF:FOk F):
  Calls prog 174 #[.pointer (some ⟨y.q,0,none⟩)] w λe w'=>e=.returned (.bool (Iy F.ap val))/\Below w.heap.size w w':=by
 have H:=ab h;have c0:=h.c0;have f5:=h.ff.c5;obtain⟨ao,cap,eS,qS,fs,aq⟩:=bn h.ff.ap;have iw:cap<=9223372036854775807:=by unfold maxLen at qS;omega
 rw[eS]at f5;have HC:=ab aq;have Qg:=hF.la;have HF:=ab hF;clear h aq qS hF;go_enter func174,ntmps174;go_wp2_with fail
 go_loopw [13] (λi wr=>∃k:Nat,k<=F.ap.length/\i=.int .i64 k/\Hid (∀j,(hj:j<F.ap.length)->j<k->yd val F.ap[j]=true)/\Hid (Below w.heap.size w wr)) (λi _=>F.ap.length-(intOf i).toNat)
 case atStart=>exact⟨0,zq5 _,rfl,ab (λ_ _ h=>absurd h (by omega)),ab (Below.refl _ _)⟩
 case round =>
  obtain⟨k,hk,rfl,cP,kq⟩:=hrel;by_cases ar:k<F.ap.length
  .have hd:decide ((k:Int)<(F.ap.length:Int))=true:=(by simp;omega);obtain⟨g,jm,qQ⟩:=uh HC (by intro h;rw[h]at ar;simp at ar);subst jm;obtain⟨p0,p1,p2⟩:=qQ k ar;have hpc:=(uh HF).ap _ (getElem_mem ar);obtain⟨p,hp⟩:∃p,p=F.ap[k]:=⟨_,rfl⟩;rw[<-hp]at p0 p1 p2 hpc;have x0:=((uh kq).cell (block_lt_of_cell? w _ p0)).trans p0;have x1:=((uh kq).cell (block_lt_of_cell? w _ p1)).trans p1;have x2:=((uh kq).cell (block_lt_of_cell? w _ p2)).trans p2;have HP:=ab hp;have hr:=((uh H).below (uh kq)).below (af wr (.cells #[Value.int .i64 p.k,.int .i64 p.l,.int .i64 p.r] 182));have vl:=hr.cv hpc.1;have vr:=hr.cv hpc.2;obtain⟨oa,hoa⟩:∃oa,oa=val.getD p.l none:=⟨_,rfl⟩;obtain⟨ob,m7⟩:∃ob,ob=val.getD p.r none:=⟨_,rfl⟩;have Jb:∀a,oa=some a->0<=a:=λa ha=>(uh H).vn p.l a (by rw[<-hoa];exact ha);have Ee:∀a,ob=some a->0<=a:=λa ha=>(uh H).vn p.r a (by rw[<-m7];exact ha);rw[<-hoa]at vl;rw[<-m7]at vr;have bu:Hid (Below w.heap.size w (wr.alloc (.cells #[Value.int .i64 p.k,.int .i64 p.l,.int .i64 p.r] 182))):=ab ((uh kq).alloc (uh kq).size _);have HD:Hid (yd val p=(p.l != p.r&&dfO oa ob)):=ab (by unfold yd;rw[<-hoa,<-m7]);obtain⟨er,n9⟩:=hpc;clear qQ p0 p1 p2 hr hoa m7 hp;by_cases mH:p.l=p.r
   .have he:((p.l:Int)==(p.r:Int))=true:=(by rw[aU];simpa using mH);have HE:Hid (Iy F.ap val=false):=ab (AI ar (by rw[<-uh HP,uh HD];simp[mH]));clear mH Jb Ee;go_wp2_with fail
    go_ret;exact⟨aw (uh HE).symm,uh bu⟩
   .have he:((p.l:Int)==(p.r:Int))=false:=(by rw[aU];simpa using mH);have aM:(p.l != p.r)=true:=(by simpa[bne] using mH);rw[aM]at HD;clear mH aM;cases oa with
    |none =>
     have HE:Hid (yd val p=true):=ab (by rw[uh HD];rfl);have V5:((-1:Int) != -1)=false:=(by decide);clear Jb Ee;simp only[Option.getD_none]at vl;go_wp2_with fail
     go_quiet (fail)
     go_wp2_with fail
     go_roundw
     case rel=>exact⟨k+1,by omega,by go_num,ab (λj hj CU=>by
      by_cases e:j=k
      .subst e;rw[<-uh HP];exact uh HE
      .exact uh cP j hj (by omega)),ab ⟨(uh bu).os,(uh bu).tape,(uh bu).output,by simpa using (uh bu).size,λk hk=>by simpa using (uh bu).block k hk⟩⟩
     case measure=>simp[intOf];omega
    |some a =>
     have ha0:=Jb a rfl;have V5:(a != (-1:Int))=true:=(by simp[bne];omega);simp only[Option.getD_some]at vl;obtain⟨b,hb⟩:∃b,b=ob.getD (-1):=⟨_,rfl⟩;rw[<-hb]at vr;have HDb:Hid (yd val p=!(a==b)):=ab (by
      rw[uh HD,hb];unfold dfO;cases ob with
      |none =>
       have:(a==(-1:Int))=false:=(by rw[beq_eq_false_iff_ne];omega);show(true&&((none:Option Int) != some a))=!(a==(-1:Int));rw[this];rfl
      |some c=>simp only[Bool.true_and,Option.getD_some];rw[Bool.eq_iff_iff];simp;exact⟨λh e=>h e.symm,λh e=>h e.symm⟩)
     clear Jb Ee hb;cases qo:(a==b) with
     |true =>
      have HE:Hid (Iy F.ap val=false):=ab (AI ar (by rw[<-uh HP,uh HDb,qo];rfl));go_wp2_with fail
      go_quiet (fail)
      go_wp2_with fail
      go_ret;exact⟨aw (uh HE).symm,⟨(uh bu).os,(uh bu).tape,(uh bu).output,by simpa using (uh bu).size,λk hk=>by simpa using (uh bu).block k hk⟩⟩
     |false =>
      have HE:Hid (yd val p=true):=ab (by rw[uh HDb,qo];rfl);go_wp2_with fail
      go_quiet (fail)
      go_wp2_with fail
      go_roundw
      case rel=>exact⟨k+1,by omega,by go_num,ab (λj hj CU=>by
       by_cases e:j=k
       .subst e;rw[<-uh HP];exact uh HE
       .exact uh cP j hj (by omega)),ab ⟨(uh bu).os,(uh bu).tape,(uh bu).output,by simpa using (uh bu).size,λk hk=>by simpa using (uh bu).block k hk⟩⟩
      case measure=>simp[intOf];omega
  .have hd:decide ((k:Int)<(F.ap.length:Int))=false:=(by simp;omega);have HE:Hid (Iy F.ap val=true):=ab (Rq (λj hj=>uh cP j hj (by omega)));go_wp2_with fail
   go_ret;exact⟨aw (uh HE).symm,uh kq⟩
end
section
variable {w w':World} {y:HL} {F:CF} {l:List (Int × Int)} {val:List (Option Int)} {fr:List Bool}
def HPo(w:World)(y:HL)(F:CF)(l:List (Int × Int))(val:List (Option Int))(fr:List Bool)(b:Bool)(e:Ending)(w':World):Prop :=
 ∃val',e=.returned (.bool b)/\Hw w' y F l val' fr/\(b=false->val'=val)/\am y.fp w y.fp w'
def fF(l:List (Int × Int)):List Int:=l.map (·.1)
def fU(l:List (Int × Int)):List Int:=l.map (·.2)
def Kt(y:HL)(F:CF)(l:List (Int × Int))(r:List Pr):Prop:=∀(w:World) (k:Nat) (val:List (Option Int)) (fr:List Bool),Hw w y F l val fr->F.ow.drop k=r->k<=F.ow.length ->
 Calls prog 147 #[.pointer (some ⟨y.q,0,none⟩),.int .i64 k] w (HPo w y F l val fr (iO F.ap (cq l) (fF l) (fU l) r val fr))
theorem Hw.mem:y.q∈y.fp:=by simp[HL.fp]
theorem Cc{val:List (Option Int)}{r:Nat}{a:Option Int}:(val.set r a).set r (val.getD r none)=val:=by
 rw[set_set];apply ext_getElem
 .simp
 .intro j h1 h2;rw[getElem_set];split
  .rename_i h;subst h;simp[h2]
  .rfl
theorem MY(h:Hw w y F l val fr)(hF:FOk F){k:Nat}(hk:k<F.ow.length)(n:Int)(hn:0<=n)(hC:Kt y F l (F.ow.drop (k+1))):
  Calls prog 204 #[.pointer (some ⟨y.q,0,none⟩),.int .i64 k,.int .i64 n] w (HPo w y F l val fr (qM (iO F.ap (cq l) (fF l) (fU l) (F.ow.drop (k+1))) F.ow[k].r val fr n)):=by
 have H:=ab h;have c0:=h.c0;have f6:=h.ff.c6;obtain⟨ao,cap,dB,qS,fs,aq⟩:=bn h.ff.ow;have iw:cap<=9223372036854775807:=by unfold maxLen at qS;omega
 rw[dB]at f6;obtain⟨g,jm,qQ⟩:=aq (by intro h;rw[h]at hk;simp at hk);subst jm;obtain⟨-,-,p2⟩:=qQ k hk;have n9:=(hF.ow _ (getElem_mem hk)).2;have qU:=hF.lo;obtain⟨r,hr⟩:∃r,r=F.ow[k].r:=⟨_,rfl⟩;rw[<-hr]at p2 n9 ⊢;have v1:=h.cv n9;have z1:=h.bk.frz (1+r);obtain⟨o,ho⟩:∃o,o=val.getD r none:=⟨_,rfl⟩;rw[<-ho]at v1;have wW:∀b,o=some b->0<=b:=λb hb=>h.vn r b (by rw[<-ho];exact hb);have HO:=ab ho;have cf:=h.setV n9 (some n) (λb hb=>by cases hb;exact hn);have HK1:Hid (∀W,Hw W y F l (val.set r (some n)) fr->Calls prog 147 #[.pointer (some ⟨y.q,0,none⟩),.int .i64 ((k:Int)+1)] W (HPo W y F l (val.set r (some n)) fr (iO F.ap (cq l) (fF l) (fU l) (F.ow.drop (k+1)) (val.set r (some n)) fr))):=ab (λW hW=>hC W (k+1) _ _ hW rfl (by omega));have QN:=ab cf;have bC:Hid (am y.fp w y.fp (w.setCell ⟨y.q,1+r,none⟩ (.int .i64 n))):=ab ((am.refl y.fp w).setCell (p:=⟨y.q,1+r,none⟩) (zq0 Hw.mem) _);have HN:Hid (∀b,o=some b->0<=b):=ab wW;clear h qS aq qQ hr ho cf hC hF wW;by_cases fR:∃b,o=some b/\b≠n
 .obtain⟨b,rfl,Yt⟩:=fR;have HE:Hid (qM (iO F.ap (cq l) (fF l) (fU l) (F.ow.drop (k+1))) r val fr n=false):=ab (by unfold qM;rw[<-uh HO];simp only;rw[if_neg Yt]);have qP:(b != (-1:Int))=true:=by have:=uh HN b rfl;simp[bne];omega
  have aO:(b != n)=true:=by simpa[bne] using Yt
  simp only[Option.getD_some]at v1;clear Yt;go_enter func204,ntmps204;go_wp2_with fail
  go_ret;exact⟨val,by rw[uh HE];rfl,uh H,λ_=>rfl,am.refl _ _⟩
 .have HE:Hid (qM (iO F.ap (cq l) (fF l) (fU l) (F.ow.drop (k+1))) r val fr n=iO F.ap (cq l) (fF l) (fU l) (F.ow.drop (k+1)) (val.set r (some n)) fr):=ab (by
   unfold qM;rw[<-uh HO];cases o with
   |none=>rfl
   |some b =>
    simp only;rw[if_pos (Classical.byContradiction λe=>fR ⟨b,rfl,e⟩)])
  obtain⟨x,hx⟩:∃x,x=o.getD (-1):=⟨_,rfl⟩;have rK:(x != (-1:Int))=false\/((x != (-1:Int))=true/\(x != n)=false):=by
   cases o with
   |none=>exact zq0 (by rw[hx];rfl)
   |some b =>
    refine zq1 ⟨?_,?_⟩
    .have:=uh HN b rfl;rw[hx];simp[bne];omega
    .have:b=n:=Classical.byContradiction λe=>fR ⟨b,rfl,e⟩;rw[hx];simpa[bne] using this
  rw[<-hx]at v1;have HX:=ab hx;obtain⟨B,hB⟩:∃B,B=iO F.ap (cq l) (fF l) (fU l) (F.ow.drop (k+1)) (val.set r (some n)) fr:=⟨_,rfl⟩;rw[<-hB]at HE HK1;clear fR hx hB;rcases rK with rK|⟨rK,vI⟩
  all_goals
   go_enter func204,ntmps204;go_wp2_with fail
   refine(uh HK1 _ (uh QN)).mono ?_;rintro e w3 ⟨val',rfl,h3,hv3,dP⟩;have v3:=h3.cv n9;have z3:=h3.bk.frz (1+r);have H4:=ab (h3.setV n9 o (uh HN));rw[<-uh HX]at H4;have dW:=ab (((uh bC).trans dP).setCell (p:=⟨y.q,1+r,none⟩) (zq0 Hw.mem) (.int .i64 x));have HV3:=ab hv3;clear h3 hv3 dP;go_wp2_with fail
   go_ret;exact⟨_,by rw[uh HE];rfl,uh H4,λhb=>by rw[uh HE]at hb;rw[uh HV3 hb,uh HO];exact Cc,uh dW⟩
end
section
variable {w w':World} {y:HL} {F:CF} {l:List (Int × Int)} {val:List (Option Int)} {fr:List Bool}
theorem Rj{fr:List Bool}{i:Nat}(h:fr.getD i false=true):(fr.set i false).count true+1=fr.count true:=by
 have hi:i<fr.length:=by
  rcases Nat.lt_or_ge i fr.length with h1|h1
  .exact h1
  .simp[List.getD,getElem?_eq_none h1]at h
 have e:fr[i]=true:=by simpa[hi] using h
 have h1:=count_set (a:=false) (b:=true) (l:=fr) hi;have h2:0<fr.count true:=count_pos_iff.2 (by rw[<-e];exact getElem_mem hi);rw[e]at h1;simp at h1;omega
theorem UE(fr:List Bool)(i:Nat)(b:Bool):(Qs fr).set i (.bool (!b))=Qs (fr.set i b):=by simp[Qs,map_set]
theorem oQ{fr:List Bool}{i:Nat}(h:fr.getD i false=true):(fr.set i false).set i true=fr:=by
 rw[set_set];apply ext_getElem
 .simp
 .intro j h1 h2;rw[getElem_set];split
  .rename_i e;subst e;simpa[h2] using h.symm
  .rfl
theorem Hw.mark(h:Hw w y F l val fr){U n cap:Nat}(hu:y.uv=.slice (some ⟨U,0,none⟩) n cap)(i:Nat)(b:Bool):Hw ((w.setCell ⟨U,i,none⟩ (.bool (!b))).setCell ⟨y.q,27,none⟩ (.int .i64 (((fr.set i b).count true:Nat):Int))) y F l val (fr.set i b)/\am y.fp w y.fp ((w.setCell ⟨U,i,none⟩ (.bool (!b))).setCell ⟨y.q,27,none⟩ (.int .i64 (((fr.set i b).count true:Nat):Int))):=by
 have hU:y.uv.ownBlock=some U:=by rw[hu];rfl
 have hUq:U≠y.q:=λe=>h.nd (by rw[hU,e]);have hUf:U∈y.fp:=by simp[HL.fp,hU]
 have ho:∀k,k ∉ y.fp->((w.setCell ⟨U,i,none⟩ (.bool (!b))).setCell ⟨y.q,27,none⟩ (.int .i64 (((fr.set i b).count true:Nat):Int))).heap[k]?=w.heap[k]?:=λk hk=>by
  rw[heap_setCell _ _ _ _ (by rintro rfl;exact hk Hw.mem),heap_setCell _ _ _ _ (by rintro rfl;exact hk hUf)]
 refine⟨⟨?_,h.lv,?_,h.nd,h.ff.of_eq (λk hk=>ho k (h.df k hk)),(cell?_of_block (a:=⟨y.X,y.o,none⟩) (ho _ h.dX)).trans h.hc,ae h.hr (λk hk=>ho k (h.dh k hk)),h.srt,h.df,h.dX,h.dh,by simpa using h.lf,h.ll,h.vn⟩,?_⟩
 .have h1:=(h.bk.setO (p:=⟨U,i,none⟩) hUq (.bool (!b))).set 27 (.int .i64 (((fr.set i b).count true:Nat):Int));have e:(Nv y.f val y.X y.o y.uv (fr.count true)).set 27 (.int .i64 (((fr.set i b).count true:Nat):Int))=Nv y.f val y.X y.o y.uv ((fr.set i b).count true):=by
   unfold Nv;rw[set_cons_succ,set_append_right _ _ (by simp[h.lv])];simp[h.lv]
  rw[e]at h1;exact h1
 .have h1:=h.us;have hn:n=fr.length:=by
   obtain⟨_,_,e,_⟩:=ah h1;rw[hu]at e;cases e;rfl
  rw[hu,hn]at h1 ⊢;have h2:=(h1.stored i (.bool (!b))).1;rw[UE]at h2;rw[length_set];exact a8 (p:=⟨y.q,27,none⟩) h2 (by simpa[Value.ownBlock] using hUq) _
 .exact((am.refl y.fp w).setCell (p:=⟨U,i,none⟩) (zq0 hUf) _).setCell (p:=⟨y.q,27,none⟩) (zq0 Hw.mem) _
def Vf(y:HL)(F:CF)(l:List (Int × Int))(k:Nat)(hk:k<F.ow.length)(m:Nat):Prop:=∀(w:World) (val:List (Option Int)) (fr:List Bool) (a:Int),Hw w y F l val fr->fr.count true<m ->
 Calls prog 175 #[.pointer (some ⟨y.q,0,none⟩),.int .i64 k,.int .i64 a] w (HPo w y F l val fr (uF (qM (iO F.ap (cq l) (fF l) (fU l) (F.ow.drop (k+1))) F.ow[k].r val) (cq l) (fU l) (F.ow[k].k==4) m fr a))
theorem ET(w:World)(a b:Int):(Instr.field 231 (.agg #[.int .i64 a,.int .i64 b]) 1).run prog w=.ok (.int .i64 b) w:=by kernel_rfl
theorem Js(hF:FOk F)(hv:∀c∈l,0<=c.1/\0<=c.2){k:Nat}(hk:k<F.ow.length)(hC:Kt y F l (F.ow.drop (k+1))):∀m,Vf y F l k hk m:=by
 intro m;induction m with
 |zero=>intro w val fr a _ h;omega
 |succ m ih =>
  intro w val fr a h iw;have H:=ab h;have c25:=h.c25;have UT:=ab (js a h.hc h.hr h.srt);have HIH:=ab ih;have KD:=ab hF;have HCC:=ab hC;have HV:=ab hv;have qq:=h.ll;have SH:=h.lf;have HLF:=ab SH;cases hf:cq l a with
  |none =>
   have HE:Hid (uF (qM (iO F.ap (cq l) (fF l) (fU l) (F.ow.drop (k+1))) F.ow[k].r val) (cq l) (fU l) (F.ow[k].k==4) (m+1) fr a=false):=ab (by rw[uF,hf]);have e:nR l a=-1:=(by unfold nR;rw[hf]);rw[e]at UT;clear h ih hF hC hv hf e SH;go_enter func175,ntmps175;go_wp2_with fail
   refine(uh UT).mono ?_;rintro e w2 ⟨rfl,rfl⟩;go_wp2_with fail
   go_ret;exact⟨val,by rw[uh HE];rfl,uh H,λ_=>rfl,am.refl _ _⟩
  |some i =>
   have e:nR l a=(i:Int):=(by unfold nR;rw[hf]);rw[e]at UT;obtain⟨hi,-⟩:=ey hf;obtain⟨U,ucap,hu,hun,hum,S1⟩:=aS h.us (by omega);have c26:=h.c26;have c27:=h.c27;have z27:=h.bk.frz 27;have ND:=h.us;rw[hu]at c26 ND;have x:=ND.cellAt i (by omega);have hx:(Qs fr)[i]?=some (.bool (!(fr.getD i false))):=by
    have:i<fr.length:=(by omega);simp[Qs,this]
   rw[hx]at x;have zx:=ND.frozenAt i;have HU:=ab hu;have hUq:¬ (U=y.q):=λe=>h.nd (by rw[hu,e];rfl);have apD:¬ (y.q=U):=λe=>hUq e.symm;cases f7:fr.getD i false with
   |false =>
    have HE:Hid (uF (qM (iO F.ap (cq l) (fF l) (fU l) (F.ow.drop (k+1))) F.ow[k].r val) (cq l) (fU l) (F.ow[k].k==4) (m+1) fr a=false):=ab (by rw[uF,hf];simp only;rw[f7];simp);rw[f7]at x;have hif:i<fr.length:=(by omega);clear h ih hF hC hv hf e ND hx f7 hu c27 z27 SH;go_enter func175,ntmps175;go_wp2_with fail
    refine(uh UT).mono ?_;rintro e w2 ⟨rfl,rfl⟩;go_wp2_with fail
    go_ret;exact⟨val,by rw[uh HE];rfl,uh H,λ_=>rfl,am.refl _ _⟩
   |true =>
    have Sv:=Rj f7;obtain⟨n,hn⟩:∃n,n=(fr.set i false).count true:=⟨_,rfl⟩;rw[<-hn]at Sv;have jg:n<=100000:=by
     have:=count_le_length (a:=true) (l:=fr);omega
    rw[<-Sv]at c27;obtain⟨nx,qu⟩:∃nx,nx=l[i].2:=⟨_,rfl⟩;have ajX:0<=nx:=(by rw[qu];exact(hv _ (getElem_mem hi)).2);obtain⟨h2,ce⟩:=h.mark hu i false;rw[<-hn]at h2 ce;have HE:Hid (uF (qM (iO F.ap (cq l) (fF l) (fU l) (F.ow.drop (k+1))) F.ow[k].r val) (cq l) (fU l) (F.ow[k].k==4) (m+1) fr a=(qM (iO F.ap (cq l) (fF l) (fU l) (F.ow.drop (k+1))) F.ow[k].r val (fr.set i false) nx||(F.ow[k].k==4&&uF (qM (iO F.ap (cq l) (fF l) (fU l) (F.ow.drop (k+1))) F.ow[k].r val) (cq l) (fU l) (F.ow[k].k==4) m (fr.set i false) nx))):=ab (by
     rw[uF,hf];simp only;rw[if_pos f7];have:(fU l).getD i 0=nx:=(by simp[fU,hi,qu]);rw[this])
    have HA:=ab (xW i hi h2.hc h2.hr);rw[<-qu]at HA;generalize l[i].1=ad0 at HA;have Cw:Hid ((fr.set i false).set i true=fr):=ab (oQ f7);have HCN:Hid (((fr.set i false).set i true).count true=n+1):=ab (by rw[oQ f7];exact Sv.symm);have CB:Hid ((fr.set i false).count true<m):=ab (by rw[<-hn];omega);have e26:=h2.c26;rw[hu]at e26;have H2:=ab h2;have bz:=ab ce;rw[f7]at x;have HHN:=ab hn;have hif:i<fr.length:=(by omega);clear h ih hF hC hv hf e ND hx f7 hu h2 ce hn qu Sv SH;go_enter func175,ntmps175;go_wp2_with fail
    refine(uh UT).mono ?_;rintro e w2 ⟨rfl,rfl⟩;have q25:=(uh H2).c25;go_wp2_with fail
    refine(uh HA).mono ?_;rintro e w3 ⟨rfl,bF⟩;have h3:=(uh H2).below bF;have dd:=ab ((uh bz).trans (am.ofBw bF));have H3:=ab h3;have HEn:=ab (MY h3 (uh KD) hk nx ajX (uh HCC));have apY:=ET w3 ad0 nx;clear bF h3 q25;go_wp2_with fail
    refine(uh HEn).mono ?_;rintro e w4 ⟨val4,rfl,h4,yF,eG⟩;have dW:=ab ((uh dd).trans eG);obtain⟨b1,aO⟩:∃b1,b1=qM (iO F.ap (cq l) (fF l) (fU l) (F.ow.drop (k+1))) F.ow[k].r val (fr.set i false) nx:=⟨_,rfl⟩;rw[<-aO]at yF HE ⊢
    -- the cell is given back
    have Ba:∀(W:World) (v':List (Option Int)),Hw W y F l v' (fr.set i false)->Hw ((W.setCell ⟨U,i,none⟩ (.bool false)).setCell ⟨y.q,27,none⟩ (.int .i64 ((n:Int)+1))) y F l v' fr/\am y.fp W y.fp ((W.setCell ⟨U,i,none⟩ (.bool false)).setCell ⟨y.q,27,none⟩ (.int .i64 ((n:Int)+1))):=by
     intro W v' hW;have:=hW.mark (uh HU) i true;rw[uh HCN,uh Cw]at this;exact this
    have adJ:∀(W:World) (v':List (Option Int)),Hw W y F l v' (fr.set i false)->W.cell? ⟨y.q,26,none⟩=some (.slice (some ⟨U,0,none⟩) fr.length ucap)/\(∃u,W.cell? ⟨U,i,none⟩=some u)/\W.frozen? ⟨U,i,none⟩=false/\W.cell? ⟨y.q,27,none⟩=some (.int .i64 (n:Int))/\W.frozen? ⟨y.q,27,none⟩=false:=by
     intro W v' hW;have a26:=hW.c26;have a27:=hW.c27;have aus:=hW.us;rw[uh HU]at a26 aus;rw[<-uh HHN]at a27;rw[length_set]at aus;refine⟨a26,?_,aus.frozenAt i,a27,hW.bk.frz 27⟩;rw[aus.cellAt i (by omega)];exact⟨_,getElem?_eq_getElem (by simp[Qs];omega)⟩
    have HBa:=ab Ba;have HFc:=ab adJ;clear aO Ba adJ;cases b1 with
    |true =>
     obtain⟨y26,⟨u,yu⟩,yz,y27,yz27⟩:=uh HFc _ _ h4;obtain⟨h5,f9⟩:=uh HBa _ _ h4;have H5:=ab h5;have gN:=ab ((uh dW).trans f9);clear h4 yF eG h5 f9;go_wp2_with fail
     go_ret;exact⟨val4,by rw[uh HE];rfl,uh H5,λhb=>by rw[uh HE]at hb;simp at hb,uh gN⟩
    |false =>
     have aku:=yF rfl;subst aku;rw[Bool.false_or]at HE;have f0:=h4.c0;have f6:=h4.ff.c6;obtain⟨oao,ocap,dB,Bp,SN,hocell⟩:=bn h4.ff.ow;have SM:ocap<=9223372036854775807:=(by unfold maxLen at Bp;omega);rw[dB]at f6;obtain⟨og,ajY,VR⟩:=hocell (by intro h;rw[h]at hk;simp at hk);subst ajY;obtain⟨p0,-,-⟩:=VR k hk;have qU:=(uh KD).lo;have HW4:=ab (uh HIH w4 val4 (fr.set i false) nx h4 (uh CB));have H4:=ab h4;obtain⟨kd,SE⟩:∃kd,kd=F.ow[k].k:=⟨_,rfl⟩;obtain⟨b2,ax⟩:∃b2,b2=uF (qM (iO F.ap (cq l) (fF l) (fU l) (F.ow.drop (k+1))) F.ow[k].r val4) (cq l) (fU l) (F.ow[k].k==4) m (fr.set i false) nx:=⟨_,rfl⟩;rw[<-ax]at HW4 HE;rw[<-SE]at p0;have HKd:=ab SE;clear h4 yF eG hocell VR Bp dB SE ax;by_cases pp:kd=4
     .have ajJ:((kd:Int)==4)=true:=(by rw[pp];rfl);have PN:Hid (uF (qM (iO F.ap (cq l) (fF l) (fU l) (F.ow.drop (k+1))) F.ow[k].r val4) (cq l) (fU l) (F.ow[k].k==4) (m+1) fr a=b2):=ab (by
       rw[uh HE];have:(F.ow[k].k==4)=true:=(by rw[<-uh HKd,pp];rfl);rw[this];rfl)
      clear pp HE;go_wp2_with fail
      refine(uh HW4).mono ?_;rintro e w5 ⟨val5,rfl,h5,hv5,f9⟩;obtain⟨y26,⟨u,yu⟩,yz,y27,yz27⟩:=uh HFc _ _ h5;obtain⟨h6,kI⟩:=uh HBa _ _ h5;have H6:=ab h6;have Ai:=ab (((uh dW).trans f9).trans kI);have HV5:=ab hv5;clear h5 hv5 f9 h6 kI;go_wp2_with fail
      go_ret;exact⟨val5,by rw[uh PN];rfl,uh H6,λhb=>by rw[uh PN]at hb;exact uh HV5 hb,uh Ai⟩
     .have ajJ:((kd:Int)==4)=false:=(by simp;omega);have PN:Hid (uF (qM (iO F.ap (cq l) (fF l) (fU l) (F.ow.drop (k+1))) F.ow[k].r val4) (cq l) (fU l) (F.ow[k].k==4) (m+1) fr a=false):=ab (by
       rw[uh HE];have:(F.ow[k].k==4)=false:=(by rw[<-uh HKd];simpa using pp);rw[this];rfl)
      obtain⟨y26,⟨u,yu⟩,yz,y27,yz27⟩:=uh HFc _ _ (uh H4);obtain⟨h6,kI⟩:=uh HBa _ _ (uh H4);have H6:=ab h6;have Ai:=ab ((uh dW).trans kI);clear pp h6 kI HE;go_wp2_with fail
      go_ret;exact⟨val4,by rw[uh PN];rfl,uh H6,λ_=>rfl,uh Ai⟩
end
section
variable {w w':World} {y:HL} {F:CF} {l:List (Int × Int)} {val:List (Option Int)} {fr:List Bool}
theorem Io(fr:List Bool):(!fr.any id)=decide (fr.count true=0):=by
 induction fr with
 |nil=>rfl
 |cons b r ih =>
  cases b with
  |true=>simp
  |false=>simpa using ih
theorem Fw{i:Nat}(h:i<l.length):(fF l)[i]'(by simpa[fF] using h)=l[i].1:=by simp[fF]
theorem afk{val:List (Option Int)}{c:Nat}{a b:Option Int}:(val.set c a).set c b=val.set c b:=set_set ..
theorem Ce{val:List (Option Int)}{c:Nat}(h:val.getD c none=none):val.set c none=val:=by
 have:=Cc (val:=val) (r:=c) (a:=none);rw[h,set_set]at this;exact this
theorem Iz{α:Type}{L:List α}{k:Nat}{p:α}{r:List α}(h:L.drop k=p::r):∃hk:k<L.length,L[k]=p/\L.drop (k+1)=r:=by
 have hk:k<L.length:=by
  rcases Nat.lt_or_ge k L.length with h1|h1
  .exact h1
  .rw[drop_eq_nil_of_le h1]at h;cases h
 rw[drop_eq_getElem_cons hk]at h;injection h with h1 h2;exact⟨hk,h1,h2⟩
theorem I6(hF:FOk F)(hv:∀c∈l,0<=c.1/\0<=c.2):∀r,Kt y F l r:=by
 intro r;induction r with
 |nil =>
  intro w k val fr h hd gy;have hk:F.ow.length<=k:=by
   rcases Nat.lt_or_ge k F.ow.length with h1|h1
   .rw[drop_eq_getElem_cons h1]at hd;cases hd
   .exact h1
  have H:=ab h;have c0:=h.c0;have f6:=h.ff.c6;obtain⟨ao,cap,dB,qS,fs,aq⟩:=bn h.ff.ow;have iw:cap<=9223372036854775807:=by unfold maxLen at qS;omega
  rw[dB]at f6;have c27:=h.c27;have HD:=ab (I5 h hF);have HE:Hid (iO F.ap (cq l) (fF l) (fU l) [] val fr=(decide (fr.count true=0)&&Iy F.ap val)):=ab (by rw[iO,Io]);obtain⟨n,hn⟩:∃n,n=fr.count true:=⟨_,rfl⟩;rw[<-hn]at c27 HE;obtain⟨b,hb⟩:∃b,b=Iy F.ap val:=⟨_,rfl⟩;rw[<-hb]at HD HE;have hkI:(F.ow.length:Int)<=(k:Int):=by omega
  clear h hd aq qS dB hn hb hF hv;by_cases h0:n=0
  .have h0':((n:Int)==0)=true:=(by rw[h0];rfl);have ig:Hid (iO F.ap (cq l) (fF l) (fU l) [] val fr=b):=ab (by rw[uh HE,h0];simp);clear h0 HE;go_enter func147,ntmps147;go_wp2_with (go_at_call 174;refine(uh HD).mono ?_;rintro e w2 ⟨rfl,ax⟩;have bu:=ab ax;clear ax)
   go_ret;exact⟨val,by rw[uh ig];rfl,(uh H).below (uh bu),λ_=>rfl,am.ofBw (uh bu)⟩
  .have h0':((n:Int)==0)=false:=(by simp;omega);have ig:Hid (iO F.ap (cq l) (fF l) (fU l) [] val fr=false):=ab (by rw[uh HE];simp[h0]);clear h0 HE;go_enter func147,ntmps147;go_wp2_with fail
   go_ret;exact⟨val,by rw[uh ig];rfl,uh H,λ_=>rfl,am.refl _ _⟩
 |cons p r ih =>
  intro w k val fr h hd gy;obtain⟨hk,hp,hr⟩:=Iz hd;have HWk:Hid (∀m,Vf y F l k hk m):=ab (Js hF hv hk (by rw[hr];exact ih));have H:=ab h;have c0:=h.c0;have f6:=h.ff.c6;obtain⟨ao,cap,dB,qS,fs,aq⟩:=bn h.ff.ow;have iw:cap<=9223372036854775807:=by unfold maxLen at qS;omega
  rw[dB]at f6;obtain⟨g,jm,qQ⟩:=aq (by intro h;rw[h]at hk;simp at hk);subst jm;obtain⟨-,p1,-⟩:=qQ k hk;have er:=(hF.ow _ (getElem_mem hk)).1;have qU:=hF.lo;rw[hp]at p1 er;obtain⟨c,hc⟩:∃c,c=p.l:=⟨_,rfl⟩;rw[<-hc]at p1 er;have v1:=h.cv er;have dM:fr.count true<(fF l).length+1:=by
   have h1:=count_le_length (a:=true) (l:=fr);have h2:=h.lf;simp only[fF,length_map];omega
  have qq:=h.ll;have HVn:=ab h.vn;cases Br:val.getD c none with
  |some a =>
   have HE:Hid (iO F.ap (cq l) (fF l) (fU l) (p::r) val fr=uF (qM (iO F.ap (cq l) (fF l) (fU l) (F.ow.drop (k+1))) F.ow[k].r val) (cq l) (fU l) (F.ow[k].k==4) ((fF l).length+1) fr a):=ab (by rw[iO,<-hc,Br,hr,hp]);have ha0:=h.vn c a Br;rw[Br]at v1;simp only[Option.getD_some]at v1;have Jb:(a != (-1:Int))=true:=(by simp[bne];omega);have PX:=ab (uh HWk _ w val fr a h dM);rw[<-uh HE]at PX;clear h hd gy hp hr dB aq qQ qS hc Br ih hF hv HWk HE;go_enter func147,ntmps147;go_wp2_with fail
   refine(uh PX).mono ?_;rintro e w2 ⟨val',rfl,h2,tE,ce⟩;have H2:=ab h2;have HV2:=ab tE;have bz:=ab ce;clear h2 tE ce;go_wp2_with fail
   go_ret;exact⟨val',rfl,uh H2,uh HV2,uh bz⟩
  |none =>
   have HE:Hid (iO F.ap (cq l) (fF l) (fU l) (p::r) val fr=(fF l).any (λa=>uF (qM (iO F.ap (cq l) (fF l) (fU l) (F.ow.drop (k+1))) F.ow[k].r (val.set c (some a))) (cq l) (fU l) (F.ow[k].k==4) ((fF l).length+1) fr a)):=ab (by rw[iO,<-hc,Br,hr,hp]);rw[Br]at v1;simp only[Option.getD_none]at v1;have Jb:((-1:Int) != (-1:Int))=false:=(by decide);have QF:=ab Br;have hkI:decide ((F.ow.length:Int)<=(k:Int))=false:=(by simp;omega);have hkN:decide (F.ow.length<=k)=false:=(by simp;omega);have HVv:=ab hv;have HFu:=ab dM;clear h hd gy hp hr dB aq qQ qS hc Br ih hF hv dM;go_enter func147,ntmps147;go_wp2_with fail
   go_loopw [7] (λi wr=>∃(j:Nat) (o:Option Int),j<=l.length/\i=.int .i64 j/\Hid (Hw wr y F l (val.set c o) fr)/\Hid (∀t,(ht:t<l.length)->t<j->uF (qM (iO F.ap (cq l) (fF l) (fU l) (F.ow.drop (k+1))) F.ow[k].r (val.set c (some l[t].1))) (cq l) (fU l) (F.ow[k].k==4) ((fF l).length+1) fr l[t].1=false)/\Hid (am y.fp w y.fp wr)) (λi _=>l.length-(intOf i).toNat)
   case atStart=>exact⟨0,none,zq5 _,rfl,ab (by rw[Ce (uh QF)];exact uh H),ab (λ_ _ h=>absurd h (by omega)),ab (am.refl _ _)⟩
   case round =>
    obtain⟨j,o,hj,rfl,hH,cP,aE⟩:=hrel;have q25:=(uh hH).c25;have HLn:=ab (AF (uh hH).hc (uh hH).hr);by_cases ar:j<l.length
    .have Qb:decide ((j:Int)<(l.length:Int))=true:=(by simp;omega);have Wu:=ab (xW j ar (uh hH).hc (uh hH).hr);have ha0:=(uh HVv _ (getElem_mem ar)).1;obtain⟨a,hA⟩:∃a,a=l[j].1:=⟨_,rfl⟩;rw[<-hA]at Wu ha0;generalize l[j].2=nx0 at Wu;have HAa:=ab hA;clear hA;go_wp2_with fail
     refine(uh HLn).mono ?_;rintro e w2 ⟨rfl,rfl⟩;go_wp2_with fail
     refine(uh Wu).mono ?_;rintro e w3 ⟨rfl,bF⟩;have h4:=((uh hH).below bF).below (af w3 (.cells #[Value.int .i64 a,.int .i64 nx0] 231));have vq:=h4.cv er;have zq:=h4.bk.frz (1+c);have hqw:¬ (y.q=w3.heap.size):=(by have:=(((uh hH).below bF).bk.lt);omega);have aqC:¬ (w3.heap.size=y.q):=λe=>hqw e.symm;have n0:=(Bk.new w3 231 [Value.int .i64 a,.int .i64 nx0]).cell 0 rfl;have h5:=h4.setV er (some a) (λb hb=>by cases hb;exact ha0);rw[afk]at h5;have H5:=ab h5;have gN:Hid (am y.fp w y.fp ((w3.alloc (.cells #[Value.int .i64 a,.int .i64 nx0] 231)).setCell ⟨y.q,1+c,none⟩ (.int .i64 a))):=ab ((((uh aE).trans (am.ofBw bF)).trans (am.ofBw (af w3 _))).setCell (p:=⟨y.q,1+c,none⟩) (zq0 Hw.mem) _);have N5:=((Bk.new w3 231 [Value.int .i64 a,.int .i64 nx0]).setO (p:=⟨y.q,1+c,none⟩) (λe=>hqw e) (.int .i64 a)).cell 0 rfl;clear h4 h5 bF;go_wp2_with fail
     go_region
     obtain⟨w5,Bx⟩:∃w5,w5=((w3.alloc (.cells #[Value.int .i64 a,.int .i64 nx0] 231)).setCell ⟨y.q,1+c,none⟩ (.int .i64 a)).drew:=⟨_,rfl⟩;rw[<-Bx];have H5d:Hid (Hw w5 y F l (val.set c (some a)) fr):=ab (by rw[Bx];exact(uh H5).of_eq (λ_ _=>rfl));have ahS:Hid (am y.fp w y.fp w5):=ab (by rw[Bx];exact(uh gN).drew);have m0:w5.cell? ⟨w3.heap.size,0,none⟩=some (.int .i64 a):=(by rw[Bx];exact N5);have HW5:=ab (uh HWk _ w5 (val.set c (some a)) fr a (uh H5d) (uh HFu));obtain⟨b,hb⟩:∃b,b=uF (qM (iO F.ap (cq l) (fF l) (fU l) (F.ow.drop (k+1))) F.ow[k].r (val.set c (some a))) (cq l) (fU l) (F.ow[k].k==4) ((fF l).length+1) fr a:=⟨_,rfl⟩;rw[<-hb]at HW5;have HBb:=ab hb;clear Bx hb N5 n0 vq zq H5 gN;go_wp2_with fail
     refine(uh HW5).mono ?_;rintro e w6 ⟨val6,rfl,h6,hv6,kI⟩;have Ai:=ab ((uh ahS).trans kI);cases b with
     |true =>
      have ig:Hid (iO F.ap (cq l) (fF l) (fU l) (p::r) val fr=true):=ab (by
       rw[uh HE,any_eq_true];refine⟨a,?_,(uh HBb).symm⟩;rw[uh HAa,<-Fw ar];exact getElem_mem _)
      have H6:=ab h6;clear h6 hv6 kI;go_wp2_with fail
      go_ret;exact⟨val6,by rw[uh ig];rfl,uh H6,λhb=>absurd hb (by rw[uh ig];simp),uh Ai⟩
     |false =>
      have akx:=hv6 rfl;subst akx;have H6:=ab h6;clear h6 hv6 kI;go_wp2_with fail
      go_roundw
      case rel=>exact⟨j+1,some a,by omega,by go_num,H6,ab (λt ht htj=>by
       by_cases e:t=j
       .subst e;rw[<-uh HAa];exact(uh HBb).symm
       .exact uh cP t ht (by omega)),Ai⟩
      case measure=>simp[intOf];omega
    .have Qb:decide ((j:Int)<(l.length:Int))=false:=(by simp;omega);have ig:Hid (iO F.ap (cq l) (fF l) (fU l) (p::r) val fr=false):=ab (by
      rw[uh HE,any_eq_false];intro a ha;obtain⟨t,ht,rfl⟩:=mem_iff_getElem.1 ha;have Ql:t<l.length:=(by simpa[fF] using ht);rw[Fw Ql,uh cP t Ql (by omega)];simp)
     have vq:=(uh hH).cv er;have zq:=(uh hH).bk.frz (1+c);have h5:=(uh hH).setV er none (λb hb=>by cases hb);rw[afk,Ce (uh QF)]at h5;have H5:=ab h5;have gN:=ab ((uh aE).setCell (p:=⟨y.q,1+c,none⟩) (zq0 Hw.mem) (.int .i64 (-1)));clear h5;go_wp2_with fail
     refine(uh HLn).mono ?_;rintro e w2 ⟨rfl,rfl⟩;go_wp2_with fail
     go_ret;exact⟨val,by rw[uh ig];rfl,uh H5,λ_=>rfl,uh gN⟩
end
section
variable {w w':World} {y:HL} {F:CF} {l:List (Int × Int)} {val:List (Option Int)} {fr:List Bool}
theorem OQ(n j:Nat):(replicate n (none:Option Int)).getD j none=none:=by
 rw[getD_eq_getElem?_getD,getElem?_replicate];split <;> rfl
theorem KY{v:List (Option Int)}{n:Nat}(hl:v.length=n)(h:∀j,j<n->v.getD j none=none):v=replicate n none:=by
 rw[eq_replicate_iff];refine⟨hl,λx hx=>?_⟩;obtain⟨j,hj,rfl⟩:=mem_iff_getElem.1 hx;have:=h j (by omega);simpa[hj] using this
def To(F:CF)(st:List Int)(j:Nat):List (Nat × Int):=((range st.length).map (λi=>(F.cl.getD (1+i) 0,st.getD i 0))).drop j
theorem NV{F:CF}{st:List Int}{j:Nat}(h:j<st.length):To F st j=(F.cl.getD (1+j) 0,st.getD j 0)::To F st (j+1):=by
 unfold To;rw[drop_eq_getElem_cons (by simpa using h)];simp
theorem Tp{F:CF}{st:List Int}{j:Nat}(h:st.length<=j):To F st j=[]:=by
 unfold To;exact drop_eq_nil_of_le (by simpa using h)
theorem Cj(c:Nat)(x:Int)(r:List (Nat × Int))(val:List (Option Int)):uk ((c,x)::r) val=match val.getD c none with|some b=>if b=x then uk r (val.set c (some x)) else none|none=>uk r (val.set c (some x)):=rfl
theorem Ny{st:List Int}{sv:Value}(h:Hw w y F l val fr)(de:∀i,i<5->F.cl.getD i 0<24)(aE:w.ownsRow 0 3 1 sv st.length (NF st))(uR:st.length<=4)(Sy:∀k,sv.ownBlock=some k->k ∉ y.fp)(Nz:∀x∈st,0<=x):
  Calls prog 146 #[.pointer (some ⟨y.q,0,none⟩),sv] w λe w' =>
   (uk (NU F st) (replicate 24 none)=none/\e=.returned (.bool false)/\am y.fp w y.fp w') \/
   (∃val',uk (NU F st) (replicate 24 none)=some val'/\e=.returned (.bool true)/\Hw w' y F l val' fr/\am y.fp w y.fp w'):=by
 have H:=ab h;have bA:=ab aE;have WB:=ab Sy;have HSV:=ab Nz;have qF:=ab de;have UU:Hid (∀W,am y.fp w y.fp W->W.ownsRow 0 3 1 sv st.length (NF st)):=ab (λW hW=>iZ aE hW Sy);obtain⟨ao,cap,Bv,fs,iw⟩:=ah aE;have HSL:=ab Bv;rw[Bv];clear h aE Sy Nz de Bv;go_enter func146,ntmps146;go_wp2_with fail
 go_loopw [5] (λi wr=>∃(k:Nat) (v:List (Option Int)),k<=24/\i=.int .i64 k/\Hid (Hw wr y F l v fr)/\Hid (∀j,j<k->v.getD j none=none)/\Hid (am y.fp w y.fp wr)) (λi _=>24-(intOf i).toNat)
 case atStart=>exact⟨0,val,by omega,rfl,H,ab (λ_ h=>absurd h (by omega)),ab (am.refl _ _)⟩
 case round =>
  obtain⟨k,v,hk,rfl,hH,cP,hS⟩:=hrel;by_cases ar:k<24
  .have hd:decide ((k:Int)<24)=true:=(by simp;omega);have vq:=(uh hH).cv ar;have zq:=(uh hH).bk.frz (1+k);have H2:=ab ((uh hH).setV ar none (λb hb=>by cases hb));have bz:=ab ((uh hS).setCell (p:=⟨y.q,1+k,none⟩) (zq0 Hw.mem) (.int .i64 (-1)));have jP:Hid (∀j,j<k+1->(v.set k none).getD j none=none):=ab (λj hj=>by
    rw[gZ];split
    .rfl
    .exact uh cP j (by
      rename_i hn;have hl:=(uh hH).lv;omega))
   go_wp2_with fail
   go_roundw
   case rel=>exact⟨k+1,v.set k none,by omega,by go_num,H2,jP,bz⟩
   case measure=>simp[intOf];omega
  .have hd:decide ((k:Int)<24)=false:=(by simp;omega);have D7:k=24:=(by omega);subst D7;have hv:v=replicate 24 none:=KY (uh hH).lv (uh cP);rw[hv]at hH;have c0:=(uh hH).c0;have k0:=(uh hH).ff.cls (i:=0) (by omega);have rI:=uh qF 0 (by omega);unfold eR at k0;obtain⟨cc,CT⟩:∃cc,cc=F.cl.getD 0 0:=⟨_,rfl⟩;rw[<-CT]at k0 rI;have vq:=(uh hH).cv rI;have zq:=(uh hH).bk.frz (1+cc);have h2:=(uh hH).setV rI (some 0) (λb hb=>by cases hb;omega);have bz:Hid (am y.fp w y.fp ((wr.setCell ⟨y.q,1+cc,none⟩ (.int .i64 0)).drew)):=ab ((uh hS).setCell (p:=⟨y.q,1+cc,none⟩) (zq0 Hw.mem) _).drew;have H2:Hid (Hw (wr.setCell ⟨y.q,1+cc,none⟩ (.int .i64 0)).drew y F l ((replicate 24 none).set cc (some 0)) fr):=ab (h2.of_eq (λ_ _=>rfl));have HE0:Hid (uk (To F st 0) ((replicate 24 none).set cc (some 0))=uk (NU F st) (replicate 24 none)):=ab (by
    unfold NU;rw[Cj];rw[OQ,<-CT];unfold To;rw[drop_zero])
   have i1:(0:Int)<=(cc:Int):=(by omega);have i2:(cc:Int)<24:=(by omega);clear h2 hv CT cP;go_wp2_with fail
   go_region
   obtain⟨w2,lQ⟩:∃w2,w2=(wr.setCell ⟨y.q,1+cc,none⟩ (.int .i64 0)).drew:=⟨_,rfl⟩;rw[<-lQ]at H2 bz ⊢;clear lQ hS hH;go_wp2_with fail
   obtain⟨TT,hTT⟩:∃TT,TT=uk (NU F st) (replicate 24 none):=⟨_,rfl⟩;rw[<-hTT]at HE0;have HTT:=ab hTT;clear hTT;go_loopw [6] (λi wr=>∃(j:Nat) (v:List (Option Int)),j<=st.length/\i=.int .i64 j/\Hid (Hw wr y F l v fr)/\Hid (uk (To F st j) v=TT)/\Hid (am y.fp w y.fp wr)) (λi _=>st.length-(intOf i).toNat)
   case atStart=>exact⟨0,_,zq5 _,rfl,H2,HE0,bz⟩
   case round =>
    clear H2 HE0 bz vq zq c0 k0 i1 i2 rI;obtain⟨j,v,hj,rfl,hH,hE,hS⟩:=hrel;by_cases ar:j<st.length
    .have DW:decide ((j:Int)<(st.length:Int))=true:=(by simp;omega);have gx:decide ((j:Int)<4)=true:=(by simp;omega);have c0:=(uh hH).c0;have k0:=(uh hH).ff.cls (i:=1+j) (by omega);have rI:=uh qF (1+j) (by omega);unfold eR at k0;have R3:=uh hE;rw[NV ar]at R3;obtain⟨cc,CT⟩:∃cc,cc=F.cl.getD (1+j) 0:=⟨_,rfl⟩;rw[<-CT]at k0 rI R3;obtain⟨x,hx⟩:∃x,x=st.getD j 0:=⟨_,rfl⟩;rw[<-hx]at R3;have Aa:0<=x:=(by rw[hx];simp only[getD_eq_getElem?_getD,getElem?_eq_getElem ar];exact uh HSV _ (getElem_mem ar));obtain⟨g,cap',Em,-,-,gE⟩:=aS (uh bA) (by omega);have tE:=(uh HSL).symm.trans Em;cases tE
     have aF:=uh UU _ (uh hS);rw[Em]at aF;have xs:=(aF.cellAt j (by omega)).trans (yO ar);rw[<-hx]at xs;have vq:=(uh hH).cv rI;have zq:=(uh hH).bk.frz (1+cc);have i1:(0:Int)<=(cc:Int):=(by omega);have i2:(cc:Int)<24:=(by omega);have i3:(1:Int)+(j:Int)<5:=(by omega);obtain⟨o,ho⟩:∃o,o=v.getD cc none:=⟨_,rfl⟩;rw[<-ho]at vq;rw[Cj,<-ho]at R3;have wW:∀b,o=some b->0<=b:=λb hb=>(uh hH).vn cc b (by rw[<-ho];exact hb);have H2:Hid (∀n,Hw ((wr.drewN n).setCell ⟨y.q,1+cc,none⟩ (.int .i64 x)) y F l (v.set cc (some x)) fr):=ab (λn=>((uh hH).below (cJ wr n)).setV rI (some x) (λb hb=>by cases hb;exact Aa));have bz:Hid (∀n,am y.fp w y.fp ((wr.drewN n).setCell ⟨y.q,1+cc,none⟩ (.int .i64 x))):=ab (λn=>((uh hS).drewN n).setCell (p:=⟨y.q,1+cc,none⟩) (zq0 Hw.mem) _);by_cases fR:∃b,o=some b/\b≠x
     .obtain⟨b,rfl,aT⟩:=fR;have qP:=wW b rfl;have e1:(b != (-1:Int))=true:=(by simp[bne];omega);have e2:(b != x)=true:=(by simpa[bne] using aT);simp only[Option.getD_some]at vq;simp only[if_neg aT]at R3;have HR:Hid (TT=none):=ab R3.symm;clear R3 CT hx Em aF ho wW aT H2 bz;go_wp2_with fail
      go_quiet (fail)
      go_wp2_with fail
      go_ret;exact zq0 ⟨by rw[<-uh HTT];exact uh HR,rfl,(uh hS).drewN _⟩
     .have HR:Hid (uk (To F st (j+1)) (v.set cc (some x))=TT):=ab (by
       rw[<-R3];cases o with
       |none=>rfl
       |some b =>
        simp only;rw[if_pos (Classical.byContradiction λe=>fR ⟨b,rfl,e⟩)])
      obtain⟨z,hz⟩:∃z,z=o.getD (-1):=⟨_,rfl⟩;have du:(z != (-1:Int))=false\/((z != (-1:Int))=true/\(z != x)=false):=by
       cases o with
       |none=>exact zq0 (by rw[hz];rfl)
       |some b =>
        refine zq1 ⟨?_,?_⟩
        .have:=wW b rfl;rw[hz];simp[bne];omega
        .have:b=x:=Classical.byContradiction λe=>fR ⟨b,rfl,e⟩;rw[hz];simpa[bne] using this
      rw[<-hz]at vq;clear R3 CT hx Em aF ho wW fR hz;rcases du with du|⟨du,ef⟩
      all_goals
       go_wp2_with fail
       go_quiet (fail)
       go_wp2_with fail
       go_region
       go_wp2_with fail
       go_roundw
       case rel=>exact⟨j+1,_,by omega,by go_num,ab (uh H2 _),HR,ab (uh bz _)⟩
       case measure=>simp[intOf];omega
    .have DW:decide ((j:Int)<(st.length:Int))=false:=(by simp;omega);have HR:Hid (TT=some v):=ab (by rw[<-uh hE,Tp (by omega)];rfl);go_wp2_with fail
     go_ret;exact zq1 ⟨v,by rw[<-uh HTT];exact uh HR,rfl,uh hH,uh hS⟩
end
def Ci(a:Value)(X o:Nat)(u n:Value):List Value:=[a,.int .i64 0,.int .i64 0,.int .i64 0,.int .i64 0,.int .i64 0,.int .i64 0,.int .i64 0,.int .i64 0,.int .i64 0,.int .i64 0,.int .i64 0,.int .i64 0,.int .i64 0,.int .i64 0,.int .i64 0,.int .i64 0,.int .i64 0,.int .i64 0,.int .i64 0,.int .i64 0,.int .i64 0,.int .i64 0,.int .i64 0,.int .i64 0,.pointer (some ⟨X,o,none⟩),u,n]
theorem Uj(A X o:Nat)(u:Value)(n:Nat):Ci (kA A) X o u (.int .i64 (n:Int))=Nv A (replicate 24 (some 0)) X o u n:=rfl
theorem OR(n c:Nat):∀a,(replicate n (some (0:Int))).getD c none=some a->0<=a:=by
 intro a ha;rw[getD_eq_getElem?_getD,getElem?_replicate]at ha;split at ha
 .simp at ha;omega
 .simp at ha
theorem UD(n:Nat):Qs (replicate n true)=replicate n (.bool false):=by simp[Qs]
theorem Jf {w:World} {X o:Nat} {pv sv hv:Value} {al:List bt} {st:List Int} {l:List (Int × Int)}
  (hp:w.ownsRow 0 239 5 pv al.length (bh al)) (ht:ij al) (mG:al.length<=1000) (hb:∀a∈al,a.lk<=2/\a.rk<=2/\a.li<=100/\a.ri<=100)
  (aE:w.ownsRow 0 3 1 sv st.length (NF st)) (uR:st.length<=4) (Nz:∀x∈st,0<=x)
  (hc:w.cell? ⟨X,o,none⟩=some hv) (hr:w.ownsRow 0 231 2 hv l.length (dD l)) (hs:ky l) (qq:l.length<=100000) (V5:∀c∈l,0<=c.1/\0<=c.2) :
  Calls prog 97 #[pv,sv,.pointer (some ⟨X,o,none⟩)] w λe w'=>e=.returned (.bool (Je al st (cq l) (fF l) (fU l)))/\Below w.heap.size w w':=by
 obtain⟨i0,iy,dG,du,ef⟩:=info_parts infoBoolQ;have aT:=af w (.cells (Ci (.pointer none) X o (.slice none 0 0) (.int .i64 0)).toArray 234);have HOf:=ab (ZD (b8 hp aT) ht mG hb);have uZ:=ab aT;have Wx:=ab (Bk.new w 234 (Ci (.pointer none) X o (.slice none 0 0) (.int .i64 0)));have bA:=ab (b8 aE aT);have HHC:=ab ((aT.cell (block_lt_of_cell? w _ hc)).trans hc);have HHR:=ab (b8 hr aT);have pm:=block_lt_of_cell? w _ hc;have WW:Hid (∀k,hv.ownBlock=some k->k<w.heap.size):=ab (λk hk=>(hr.lt k hk).2);have HSl:Hid (∀k,sv.ownBlock=some k->k<w.heap.size):=ab (λk hk=>(aE.lt k hk).2);have HRm:=ab (Vj ht);have HRa:=ab (Xv ht);have HCl:=ab (acr ht);have HLo:=ab (acs al);have UY:Hid ((bL al).ap.length<=al.length):=ab (by show(List.map _ _).length<=_;rw[length_map];exact length_filter_le _ _);have HSr:=ab hs;have HV0:=ab V5;have HSV:=ab Nz;obtain⟨F,hF⟩:∃F,F=bL al:=⟨_,rfl⟩;have HE:Hid (Je al st (cq l) (fF l) (fU l)=match uk (NU F st) (replicate 24 none) with|none=>false|some val=>if (fF l).length<F.ow.length then false else iO F.ap (cq l) (fF l) (fU l) F.ow val (replicate (fF l).length true)):=ab (by rw[hF];rfl);rw[<-hF]at HOf HRm HRa HCl HLo UY;clear hp aE hc hr hs V5 Nz ht hb hF aT;have Jm:(#[Value.pointer none,Value.int IntKind.i64 0,Value.int IntKind.i64 0,Value.int IntKind.i64 0,Value.int IntKind.i64 0,Value.int IntKind.i64 0,Value.int IntKind.i64 0,Value.int IntKind.i64 0,Value.int IntKind.i64 0,Value.int IntKind.i64 0,Value.int IntKind.i64 0,Value.int IntKind.i64 0,Value.int IntKind.i64 0,Value.int IntKind.i64 0,Value.int IntKind.i64 0,Value.int IntKind.i64 0,Value.int IntKind.i64 0,Value.int IntKind.i64 0,Value.int IntKind.i64 0,Value.int IntKind.i64 0,Value.int IntKind.i64 0,Value.int IntKind.i64 0,Value.int IntKind.i64 0,Value.int IntKind.i64 0,Value.int IntKind.i64 0,Value.pointer (some ⟨X,o,none⟩),Value.slice none 0 0,Value.int IntKind.i64 0]:Array Value)=(Ci (.pointer none) X o (.slice none 0 0) (.int .i64 0)).toArray:=rfl;have ahW:=ab Jm;clear Jm;go_enter func97,ntmps97;go_wp2_with fail
 rw[uh ahW];refine(uh HOf).mono ?_;rintro e w1 ⟨A,fav,fov,rfl,hIF,zR,aO⟩;have bE:am [w.heap.size] (w.alloc (.cells (Ci (.pointer none) X o (.slice none 0 0) (.int .i64 0)).toArray 234)) [w.heap.size] w1:=am.ofBw aO;have RV:=(uh Wx).below aO;have q0:=RV.cell 0 rfl;have z0:=RV.frz 0;have hAq:∀k∈aG A fav fov,w.heap.size<k:=λk hk=>by have:=zR k hk;simp at this;omega
 have X4:dm (w1.setCell ⟨w.heap.size,0,none⟩ (.pointer (some ⟨A,0,none⟩))) A F fav fov:=hIF.of_eq (λk hk=>heap_setCell _ _ _ _ (λe=>by have:=hAq k hk;simp only at e;omega));have jf:Bk (w1.setCell ⟨w.heap.size,0,none⟩ (.pointer (some ⟨A,0,none⟩))) w.heap.size 234 (Ci (kA A) X o (.slice none 0 0) (.int .i64 0)):=RV.set 0 (.pointer (some ⟨A,0,none⟩));have bK:=bE.setCell (p:=⟨w.heap.size,0,none⟩) (zq0 (by simp)) (.pointer (some ⟨A,0,none⟩));obtain⟨w2,lQ⟩:∃w2,w2=w1.setCell ⟨w.heap.size,0,none⟩ (.pointer (some ⟨A,0,none⟩)):=⟨_,rfl⟩;rw[<-lQ]at X4 jf bK;have ahu:Hid (w2.cell? ⟨X,o,none⟩=some hv):=ab ((bK.cell (p:=⟨X,o,none⟩) (by simp;omega) (by simp;omega)).trans (uh HHC));have ahv:Hid (w2.ownsRow 0 231 2 hv l.length (dD l)):=ab (iZ (uh HHR) bK (λk hk=>by have:=uh WW k hk;simp;omega));have ahA:=ab (AF (uh ahu) (uh ahv));have q27:=jf.cell 27 rfl;have z27:=jf.frz 27;have XW:Bk (w2.setCell ⟨w.heap.size,27,none⟩ (.int .i64 (l.length:Int))) w.heap.size 234 (Ci (kA A) X o (.slice none 0 0) (.int .i64 (l.length:Int))):=jf.set 27 _;have cd:=bK.setCell (p:=⟨w.heap.size,27,none⟩) (zq0 (by simp)) (.int .i64 (l.length:Int));have acP:dm (w2.setCell ⟨w.heap.size,27,none⟩ (.int .i64 (l.length:Int))) A F fav fov:=X4.of_eq (λk hk=>heap_setCell _ _ _ _ (λe=>by have:=hAq k hk;simp only at e;omega));have WL:=ab acP;have Wz:=ab XW;have dd:=ab cd;have HAq:=ab hAq;have p27:=XW.cell 27 rfl;have J8:=ab lQ;clear hIF zR aO bE RV X4 bK jf acP XW cd hAq lQ;go_wp2_with (first|(go_at_call 145;rw[<-uh J8];refine(uh ahA).mono ?_;rintro e w2' ⟨rfl,rfl⟩)|(at_make;refine wpList_make_full _ rfl _ _ 200 rfl 0 4 i0 (.bool false) 1 underlying200 iy dG du .i64 .i64 _ _ l.length rfl rfl rfl rfl ?b2 ?b3 ?b4 ?_))
 case b2=>rw[ef];omega
 case b3=>unfold maxLen;omega
 case b4=>exact zq5 _
 intro w4 dO bU;obtain⟨U,hU⟩:∃U,U=w2'.heap.size:=⟨_,rfl⟩;rw[<-hU]at dO ⊢;have hq2:w.heap.size<U:=by
  have:=(uh Wz).lt;rw[hU];simpa using this
 have dA:=(uh dd).grown bU (λk hk=>by cases hk);have nW:=(uh Wz).of_eq (bU.block w.heap.size (uh Wz).lt (by simp));have acQ:=(uh WL).of_eq (λk hk=>bU.block k ((uh WL).lt k hk) (by simp));have q26:=nW.cell 26 rfl;have z26:=nW.frz 26;have fe:w4.ownsRow 0 4 1 (.slice (some ⟨U,0,none⟩) l.length l.length) l.length (Qs (replicate l.length true)):=by
  rw[UD];simpa[Value.cells,toList_madeCells_one] using dO
 have acF:Bk (w4.setCell ⟨w.heap.size,26,none⟩ (.slice (some ⟨U,0,none⟩) l.length l.length)) w.heap.size 234 (Ci (kA A) X o (.slice (some ⟨U,0,none⟩) l.length l.length) (.int .i64 (l.length:Int))):=nW.set 26 _;have ep:=dA.setCell (p:=⟨w.heap.size,26,none⟩) (zq0 (by simp)) (.slice (some ⟨U,0,none⟩) l.length l.length);have hAU:∀k∈aG A fav fov,k≠U:=λk hk e=>by
  have:=(uh WL).lt k hk;rw[e,hU]at this;simp at this
 have Bx:Hw (w4.setCell ⟨w.heap.size,26,none⟩ (.slice (some ⟨U,0,none⟩) l.length l.length)) ⟨w.heap.size,A,X,o,.slice (some ⟨U,0,none⟩) l.length l.length,hv,fav,fov⟩ F l (replicate 24 (some 0)) (replicate l.length true):=by
  refine⟨?_,by simp,?_,?_,?_,?_,?_,uh HSr,?_,?_,?_,by simp,qq,λc=>OR 24 c⟩
  .rw[count_replicate_self,<-Uj];exact acF
  .rw[length_replicate];exact a8 (p:=⟨w.heap.size,26,none⟩) fe (by simp[Value.ownBlock];omega) _
  .simp[Value.ownBlock];omega
  .exact acQ.of_eq (λk hk=>heap_setCell _ _ _ _ (λe=>by have:=uh HAq k hk;simp only at e;omega))
  .exact(ep.cell (p:=⟨X,o,none⟩) (by simp;omega) (by simp;omega)).trans (uh HHC)
  .exact iZ (uh HHR) ep (λk hk=>by have:=uh WW k hk;simp;omega)
  .intro k hk hm;simp only[HL.fp,Value.ownBlock,Option.toList_some,mem_cons,not_mem_nil,or_false]at hm;rcases hm with e|e
   .have:=uh HAq k hk;omega
   .exact hAU k hk e
  .simp[HL.fp,Value.ownBlock];omega
  .intro k hk hm;have:=uh WW k hk;simp only[HL.fp,Value.ownBlock,Option.toList_some,mem_cons,not_mem_nil,or_false]at hm;omega
 have vp:Below w.heap.size w (w4.setCell ⟨w.heap.size,26,none⟩ (.slice (some ⟨U,0,none⟩) l.length l.length)):=(uh uZ).trans (ep.below (uh uZ).size (by simp));have qZ:(w4.setCell ⟨w.heap.size,26,none⟩ (.slice (some ⟨U,0,none⟩) l.length l.length)).ownsRow 0 3 1 sv st.length (NF st):=iZ (uh bA) ep (λk hk=>by have:=uh HSl k hk;simp;omega);obtain⟨y,hy⟩:∃y:HL,y=⟨w.heap.size,A,X,o,.slice (some ⟨U,0,none⟩) l.length l.length,hv,fav,fov⟩:=⟨_,rfl⟩;rw[<-hy]at Bx;have hyq:y.q=w.heap.size:=by rw[hy]
 have HYq:=ab hyq;have HYf:Hid (∀k∈y.fp,w.heap.size<=k):=ab (λk hk=>by
  rw[hy]at hk;simp only[HL.fp,Value.ownBlock,Option.toList_some,mem_cons,not_mem_nil,or_false]at hk;omega)
 have QN:=ab (Ny Bx (uh HCl) qZ uR (λk hk hm=>by have h1:=uh HSl k hk;have h2:=uh HYf k hm;omega) (uh HSV));rw[hyq]at QN;have gH:=ab vp;have KD:Hid (FOk F):=ab ⟨uh HRa,uh HRm,by have:=uh UY;omega,by have:=uh HLo;omega⟩;clear dO bU hU dA nW acQ fe acF ep hAU Bx vp qZ hy hyq;go_wp2_with fail
 refine(uh QN).mono ?_;rintro e w6 (⟨hn,rfl,kI⟩|⟨val,rJ,rfl,h6,kI⟩)
 .have HR:Hid (Je al st (cq l) (fF l) (fU l)=false):=ab (by rw[uh HE,hn]);have mO:=ab ((uh gH).trans (kI.below (uh gH).size (uh HYf)));clear hn kI;go_wp2_with fail
  go_ret;exact⟨aw (uh HR).symm,uh mO⟩
 .have mO:=ab ((uh gH).trans (kI.below (uh gH).size (uh HYf)));have c0:=h6.c0;have c27:=h6.c27;rw[uh HYq]at c0 c27;rw[count_replicate_self]at c27;have f6:=h6.ff.c6;obtain⟨oao,ocap,dB,Bp,SN,-⟩:=bn h6.ff.ow;have SM:ocap<=9223372036854775807:=by unfold maxLen at Bp;omega
  rw[dB]at f6;have adr:(fF l).length=l.length:=by simp[fF]
  have ig:Hid (Je al st (cq l) (fF l) (fU l)=if l.length<F.ow.length then false else iO F.ap (cq l) (fF l) (fU l) F.ow val (replicate l.length true)):=ab (by rw[uh HE,rJ];simp only;rw[adr]);have HFi:=ab (λn:Nat=>I6 (uh KD) (uh HV0) F.ow (w6.drewN n) 0 val (replicate l.length true) (h6.below (cJ w6 n)) (by simp) (zq5 _));rw[uh HYq]at HFi;have qU:=(uh KD).lo;clear rJ kI h6 dB Bp adr;by_cases ar:l.length<F.ow.length
  .have HR:Hid (Je al st (cq l) (fF l) (fU l)=false):=ab (by rw[uh ig,if_pos ar]);have hd:decide ((l.length:Int)<(F.ow.length:Int))=true:=(by simp;omega);go_wp2_with fail
   go_quiet (fail)
   go_wp2_with fail
   go_ret;exact⟨aw (uh HR).symm,(uh mO).trans ((cJ _ _).mono (uh mO).size)⟩
  .have HR:Hid (Je al st (cq l) (fF l) (fU l)=iO F.ap (cq l) (fF l) (fU l) F.ow val (replicate l.length true)):=ab (by rw[uh ig,if_neg ar]);have hd:decide ((l.length:Int)<(F.ow.length:Int))=false:=(by simp;omega);go_wp2_with fail
   go_quiet (fail)
   go_wp2_with fail
   refine(uh HFi _).mono ?_;rintro e w7 ⟨val7,rfl,-,-,tA⟩;have HB7:=ab (((uh mO).trans ((cJ _ _).mono (uh mO).size)).trans (tA.below (by have:=(uh mO).size;simpa using this) (uh HYf)));clear tA;go_wp2_with fail
   go_ret;exact⟨aw (uh HR).symm,uh HB7⟩
