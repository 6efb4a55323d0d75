import Derived.Test.YtdpomdelmdofmaaGreatDoorPfx21
import Derived.DeepKeys4
open Go.Proofs.Tryz renaming prog->AI
open Go renaming bodyPost_ret->AS,World->CD,results->CR,maxLen->F5
open List renaming length_cons->AT,mem_cons_of_mem->C2,map_cons->Dp,mem_cons->Dt,length_map->D0,map_append->E0,length_nil->Ft
open Nat renaming le_trans->A6,le_max_right->CH,add_comm->CL,le_refl->C1,le_succ_of_le->DD,le_max_left->F1
open Go.Instr renaming index->Bs
open Go.Value renaming string->BY
open Go.RowKit renaming Below->F2
open Go.RowKit.Below renaming refl->G0
set_option maxRecDepth 100000
set_option maxHeartbeats 8000000
namespace Go.Proofs.YtdpomdelmdofmaaGreatDoor
open Go.Proofs.Tryz Go.RowKit Go.Maps
variable{w:CD}{g:Nat}{ps ks:List By}{t s:By}{d e:Int}{v:To}{x:By×Bool×Bool}
theorem QS(l:By)(w:CD)(h:l.length<=1048576)(hT:Af w):
  Calls AI 108 #[.string ⟨l.toArray⟩] w fun e w'=>e=.returned (.bool (Lib.validD l))/\F2 w.heap.size w w':=
 Any.utf8_ValidString Tryz.lays196 ⟨l.toArray⟩ w (by rw[AU];omega) hT.utf8
def Eg(ps:List By):List Value:=ps.map fun p=>.string ⟨p.toArray⟩
theorem SS(l:By):Lib.countB ⟨l.toArray⟩ ⟨#[47]⟩=l.count 47:=Lib.count_one 47 l
theorem Js(l:By):(Lib.splitB ⟨#[47]⟩ 0 (l.count 47) ⟨l.toArray⟩).map BY=Eg (ZE l):=by
 have h:=Lib.splitB_data ⟨#[47]⟩ 0 (l.count 47) ⟨l.toArray⟩;have h2:(Lib.splitB ⟨#[47]⟩ 0 (l.count 47) ⟨l.toArray⟩).map (·.data.toList)=ZE l:=h.trans (KS l.length l (C1 _))
 unfold Eg;rw[<- h2,List.map_map];rfl
theorem OW(l:By):(ZE l).length=l.count 47+1:=by
 have h:=congrArg List.length (Js l);have h1:=Lib.splitB_all ⟨#[47]⟩ (by decide) 0 (l.count 47) ⟨l.toArray⟩ (SS l);rw[D0] at h;unfold Eg at h
 grind
theorem Ra(l:By)(w:CD)(h:l.length<=1048576)(hm:Mx w):
  Calls AI 109 #[.string ⟨l.toArray⟩,.string ⟨#[47]⟩] w fun e w'=>e=.returned (.slice (some ⟨w.heap.size,0,none⟩) (ZE l).length (ZE l).length)/\w'=w.alloc (.cells (Eg (ZE l)).toArray 9):=by
 obtain⟨m,hm⟩:=hm;have c:=Any.strings_Split Tryz.lays146 (by kernel_rfl) ⟨l.toArray⟩ ⟨#[47]⟩ m w (by rw[AU];omega) hm (by decide);rw[SS,Js,<- OW] at c;exact c
def DS(w:CD)(g:Nat)(ps:List By):Prop:=w.heap[g]? = some (.cells (Eg ps).toArray 9 (0,0))
theorem DS.cell(h:DS w g ps)(k:Nat)(hk:k<ps.length):w.cell? ⟨g,k,none⟩=some (.string ⟨ps[k].toArray⟩):=by
 simp[World.cell?,show w.heap[g]? = _ from h,Eg,hk]
theorem DS.lt(h:DS w g ps):g<w.heap.size:=(Array.getElem?_eq_some_iff.1 h).1
theorem DS.bel{w':CD}(h:DS w g ps)(hb:F2 w.heap.size w w'):DS w' g ps:=(hb.block g h.lt).trans h
theorem DS.fz(h:DS w g ps)(k:Nat):w.frozen? ⟨g,k,none⟩=false:=by
 simp[World.frozen?,show w.heap[g]? = _ from h]
theorem OO{α:Type}(v b:α)(c:List α):∀a:List α,(a++b::c).set a.length v=a++v::c
 | []=>rfl
 | x::a=>by
  show x::(a++b::c).set a.length v=_;rw[OO v b c a];rfl
theorem DS.set{rest:List By}(h:DS w g ([]::(ks++t::rest))):DS (w.setCell ⟨g,1+ks.length,none⟩ (.string ⟨s.toArray⟩)) g ([]::((ks++[s])++rest)):=by
 have e:(Eg ([]::(ks++t::rest))).toArray.setIfInBounds (1+ks.length) (.string ⟨s.toArray⟩)=(Eg ([]::((ks++[s])++rest))).toArray:=by
  rw[List.setIfInBounds_toArray];congr 1;unfold Eg;rw[CL,Dp,List.set_cons_succ,Dp,E0,Dp,List.append_assoc,E0];congr 1;have:=OO (BY ⟨s.toArray⟩) (BY ⟨t.toArray⟩) (rest.map fun p=>BY ⟨p.toArray⟩) (ks.map fun p=>BY ⟨p.toArray⟩);rw[D0] at this;rw[this];rfl
 unfold DS;rw[<- e];simp only[World.setCell,Array.getElem?_modify];rw[if_pos trivial,show w.heap[g]? = _ from h];rfl
theorem IG{rest:List By}:Z8 (t::rest)=match ZA t with|none=>none|some k=>(Z8 rest).map (k :: ·):=rfl
theorem Jw:∀ (l:By),∀t∈ZE l,t.length<=l.length
 | [],t,h=>by
  have:t=[]:=by simpa[ZE] using h
  rw[this];exact C1 _
 | c::r,t,h=>by
  unfold ZE at h;split at h
  ·rcases Dt.1 h with e|e
   ·rw[e];exact Nat.zero_le _
   ·exact DD (Jw r t e)
  ·split at h
   ·rename_i p ps hp;rcases Dt.1 h with e|e
    ·rw[e];exact Nat.succ_le_succ (Jw r p (by rw[hp];exact List.mem_cons_self ..))
    ·exact DD (Jw r t (by rw[hp];exact C2 _ e))
   ·rcases Dt.1 h with e|e
    ·rw[e];simp
    ·cases e
def Xn(o:Option (List By))(e:Ending)(w':CD):Prop:=match o with
 | some ks=>∃v,e=.returned (.tuple #[v,.bool true])/\CI w' v ks
 | none=>e=.returned (.tuple #[.slice none 0 0,.bool false])
def Ga(lo:Nat)(o:Option (List By))(e:Ending)(w':CD):Prop:=match o with
 | some ks=>∃v,e=.returned (.tuple #[v,.bool true])/\CI w' v ks /\ ∀g,v.ownBlock=some g->lo<=g
 | none=>e=.returned (.tuple #[.slice none 0 0,.bool false])
theorem La{l:By}(hn:l.length<=1048576)(hT:Af w)(hP:Er w)(hm:Mx w):
  Calls AI 80 #[.string ⟨l.toArray⟩] w fun e w'=>Ga w.heap.size (ZW l) e w'/\F2 w.heap.size w w':=by
 have hv:=Ab (QS l w hn hT);obtain⟨R,hR⟩:∃R,R=ZW l:=⟨_,rfl⟩
 rw[<- hR];have HR:=Ab hR;have HM:=Ab hm;have HP:=Ab hP;clear hR hm hP hT;cases hva:Lib.validD l with
 | false=>
  have HV:=Ab (show R=none by rw[Aa HR];unfold ZW;rw[hva];rfl);rw[hva] at hv;clear hva
  go_enter func80,ntmps80
  go_wp2_with (fail);refine (Aa hv).mono ?_
  rintro e w1 ⟨rfl,hb1⟩
  go_wp2_with (fail)
  go_ret2
  exact⟨by rw[Aa HV];rfl,hb1⟩
 | true=>
  have HV:=Ab (show R=match ZE l with|[]::r=>Z8 r|_=>none by rw[Aa HR];unfold ZW;rw[hva];rfl);rw[hva] at hv;clear hva
  go_enter func80,ntmps80
  go_wp2_with (fail);refine (Aa hv).mono ?_
  rintro e w1 ⟨rfl,hb1⟩;have qh:=Ab hb1;have qm:=Ab (Ra l w1 hn ((Aa HM).kept hb1));clear hb1 hv
  go_wp2_with (fail);refine (Aa qm).mono ?_
  rintro e w2 ⟨rfl,rfl⟩;have HN:=Ab (OW l);have z7:l.count 47<=l.length:=List.count_le_length;have h0:DS (w1.alloc (.cells (Eg (ZE l)).toArray 9)) w1.heap.size (ZE l):=by
   show (w1.heap.push _)[w1.heap.size]? = _;simp
  have qp:=(Aa qh).alloc (Aa qh).size (.cells (Eg (ZE l)).toArray 9);have z1:w1.heap.size<(w1.alloc (.cells (Eg (ZE l)).toArray 9)).heap.size:=by simp
  have q8:=Ab qp;have hG:=(Aa qh).size;clear qp;have qo:=Ab (Jw l);cases hpc:ZE l with
  | nil=>exact absurd hpc (Xr l)
  | cons t0 q0=>
   rw[hpc] at h0 HV q8 HN qo;have qe:q0.length<=1048576:=by have:=Aa HN;simp only[AT] at this;omega
   generalize w1.alloc (.cells (Eg (t0::q0)).toArray 9)=w2 at *;have c0:=h0.cell 0 (by simp);simp only[List.getElem_cons_zero] at c0;have H0:=Ab h0;clear hpc h0 qm;cases t0 with
   | cons a q=>
    have qt:=Ab (show R=none from Aa HV)
    go_wp2_with (fail)
    go_ret2
    exact⟨by rw[Aa qt];rfl,Aa q8⟩
   | nil=>
    have qi:=Ab (show R=Z8 q0 from Aa HV);have qu:=Ab (show ∀t∈q0,t.length<=1048576 from fun t ht=>A6 (Aa qo t (C2 _ ht)) hn);clear HV;simp only[AT];by_cases qd:q0=[]
    ·have qj:=Ab (show R=some [] by rw[Aa qi,qd];rfl);subst qd;simp only[Ft]
     go_wp2_with (fail);refine wp_loop_rounds 1 ?_
     rw[rounds_succ]
     go_wp2_with (fail)
     go_ret2
     exact⟨by rw[Aa qj];exact⟨_,rfl,Or.inl ⟨rfl,_,_,rfl,by unfold F5;omega⟩,fun g h=>by cases h;exact hG⟩,Aa q8⟩
    ·obtain⟨N,hN⟩:∃N,N=q0.length:=⟨_,rfl⟩
     have hpos:0<N:=by rw[hN];exact List.length_pos_iff.2 qd
     have qq:=Ab hN;rw[<- hN];have z6:(N:Int)<=1048576:=by omega
     have qy:(1:Int)<=(N:Int)+1:=by omega
     clear hN qe HN qd
     go_wp2_with (fail)
     go_loopw [23] (fun i wr=>∃ (ks rest:List By),i=.int .i64 ks.length/\ks.length+rest.length=N/\Hid (DS wr w1.heap.size ([]::(ks++rest)))/\Hid (F2 w.heap.size w wr)/\Hid (Z8 q0=(Z8 rest).map (ks ++ ·))/\Hid (∀t∈rest,t.length<=1048576))
      (fun i _=>N-(intOf i).toNat)
     case atStart=>exact⟨[],q0,rfl,by have:=Aa qq;simp;omega,H0,q8,by show Z8 q0=_;cases Z8 q0<;>rfl,qu⟩
     case round=>
      obtain⟨ks,rest,rfl,q9,qb,HB,HE,qn⟩:=hrel;cases rest with
      | nil=>
       have qv:ks.length=N:=by simpa using q9
       have qf:=Ab (show ∀cap,N<=cap->cap<=F5->Ga w.heap.size R (.returned (.tuple #[.slice (some ⟨w1.heap.size,1,none⟩) N cap,.bool true])) wr from fun cap qz qw=>by
        rw[Aa qi,Aa HE];refine⟨_,rfl,Or.inr ⟨_,1,cap,?_,?_,qw,(Aa qb).lt,fun k hk=>?_⟩,fun g h=>(by cases h;exact hG)⟩
        ·simp[qv]
        ·simp;omega
        ·have hk2:k<ks.length:=by simpa using hk
         have h9:=(Aa qb).cell (1+k) (by simp;omega);rw[h9];simp[CL 1 k])
       have qg:¬ ((ks.length:Nat):Int)<(N:Int):=by omega
       go_wp2_with (fail)
       go_ret2
       exact⟨Aa qf _ (by omega) (by unfold F5;omega),Aa HB⟩
      | cons t r=>
       have qg:((ks.length:Nat):Int)<(N:Int):=by simp only[AT] at q9;omega
       have c1:wr.cell? ⟨w1.heap.size,1+ks.length,none⟩=some (.string ⟨t.toArray⟩):=by
        rw[(Aa qb).cell (1+ks.length) (by simp;omega)];simp[CL 1 ks.length]
       have q4:=Ab (Me (l:=t) (Aa qn t (by simp)) ((Aa HP).kept (Aa HB)) ((Aa HM).kept (Aa HB)));clear c0
       go_wp2_with (fail);refine (Aa q4).mono ?_
       rintro e w3 ⟨q7,hb3⟩;have qk:=Ab ((Aa HB).trans (hb3.mono (Aa HB).size));have q6:=Ab ((Aa qb).bel hb3);clear hb3 q4 c1;cases hun:ZA t with
       | none=>
        rw[hun] at q7;have q5:e=.returned (.tuple #[.string ⟨#[]⟩,.bool false]):=q7;subst q5;have qj:=Ab (show R=none by rw[Aa qi,Aa HE,IG,hun];rfl);clear q7 hun
        go_wp2_with (fail)
        go_ret2
        exact⟨by rw[Aa qj];rfl,Aa qk⟩
       | some s=>
        rw[hun] at q7;have q5:e=.returned (.tuple #[.string ⟨s.toArray⟩,.bool true]):=q7;subst q5;have qr:=Ab (show Z8 q0=(Z8 r).map ((ks++[s]) ++ ·) by
         rw[Aa HE,IG,hun];cases Z8 r<;>simp)
        have fz:=(Aa q6).fz (1+ks.length);have c3:w3.cell? ⟨w1.heap.size,1+ks.length,none⟩=some (.string ⟨t.toArray⟩):=by
         rw[(Aa q6).cell (1+ks.length) (by simp;omega)];simp[CL 1 ks.length]
        clear q7 hun
        go_wp2_with (fail);refine⟨⟨ks++[s],r,by simp,?_,(Aa q6).set,(Aa qk).setCell (p:=⟨w1.heap.size,1+ks.length,none⟩) hG _,qr,fun t' qx=>Aa qn t' (by simp[qx])⟩,?_⟩
        ·simp only[List.length_append,AT,Ft] at q9 |-; omega
        ·simp only[AT] at q9;simp only[intOf];omega
theorem Lb{l:By}(hn:l.length<=1048576)(hT:Af w)(hP:Er w)(hm:Mx w):
  Calls AI 80 #[.string ⟨l.toArray⟩] w fun e w'=>Xn (ZW l) e w'/\F2 w.heap.size w w':=by
 refine (La hn hT hP hm).mono ?_;rintro e w' ⟨h,hb⟩;refine⟨?_,hb⟩;cases ho:ZW l with
 | none=>rw[ho] at h;exact h
 | some ks=>
  rw[ho] at h;obtain⟨v,h1,h2,_⟩:=h;exact⟨v,h1,h2⟩
theorem Sf{F:Nat->Prop}{v:Value}{dd xx lv:Int}{d e:To}{l:List By}(hg:Zl dd xx top lv d)(hl:(Zm top d).length<=80000)(hf:Ak d l=.ok e)(h:KI F w v e):
  ∃M,Rep M F w v e/\Zm M e=Zm top e/\(Zm M e).length<=80000:=by
 obtain⟨f',q0,h1,h2,h3⟩:=Pf l top lv d e hg hf;obtain⟨f,h⟩:=h;refine⟨max f top,h.up (F1 _ _),?_,?_⟩
 ·rw[Fy f' _ q0 e h2 (A6 h1 (CH _ _)),Fy f' _ q0 e h2 h1]
 ·rw[Fy f' _ q0 e h2 (A6 h1 (CH _ _))];omega
theorem Ja:∀ {l:List By} {d:To} {c:Nat},Ak d l=.error c->c=11\/c=12
 | [],d,c,h=>by cases h
 | t::r,d,c,h=>by
  unfold Ak at h;split at h
  ·exact Ja h
  ·rename_i c2 hc;injection h with h;subst h;exact EM hc
theorem XI:L9:=by
 intro S d e n p v F s w hn hS hD hT;obtain⟨D,R,wp,rfl,qp⟩:=hD;have qb:F2 w.heap.size w (w.alloc (.cells #[.int .i64 0,.int .i64 0,.string ⟨#[]⟩] 46)):=(G0 _ _).alloc (C1 _) _;have q7:=hT.below (qb.mono hT.ng);have q0:=Ab (Lb hn q7 q7.pesc q7.mx);have qk:=Ab (qp.bel qb);have HS:=Ab (hS.low qb);have HT:=Ab q7;have HA:=Ab (AB.new w);have qe:=Ab qb;have qx:=hT.ng;have qv:=Ab (fun ks (h:ZW s=some ks)=>Mf h);obtain⟨RR,qh⟩:∃RR,RR=bJ v.1 s:=⟨_,rfl⟩
 rw[<- qh];have qf:=Ab qh;clear hT hS qp q7 qb qh
 go_enter func57,ntmps57
 go_wp2_with (fail);refine (Aa q0).mono ?_
 rintro x w1 ⟨he,hb1⟩;have A1:=Ab ((Aa HA).low hb1);have S1:=Ab ((Aa HS).low hb1);have D1:=Ab ((Aa qk).bel hb1);have T1:=Ab ((Aa HT).below (hb1.mono (Aa HT).ng));have q8:=(Aa qe).trans (hb1.mono (Aa qe).size);have q9:=Ab q8;clear hb1 q8 HA HS qk qe HT q0;cases htk:ZW s with
 | none=>
  rw[htk] at he;have qt:x=.returned (.tuple #[.slice none 0 0,.bool false]):=he;subst qt;have HE:=Ab (show RR=(9,0,[]) by rw[Aa qf];unfold bJ;rw[htk]);clear he htk
  go_wp2_with (fail);refine (Bj 9 _).mono ?_
  rintro x w2 ⟨rfl,hb2⟩;have a2:=(Aa A1).low hb2;have g0:=a2.c0;have g1:=a2.c1;have g2:=a2.c2;have z:=a2.fz;have q6:=Ab ((Aa q9).trans (hb2.mono (Aa q9).size));clear a2 hb2;unfold AW
  go_wp2_with (fail);refine AS (v:=AW 9 []) (by simp[CR,results57,go_sem,AW,g0,g1,g2]) rfl ⟨?_,?_⟩
  ·rw[Aa HE];rfl
  ·exact An (An (An (Aa q6) _ 0 (by omega) _) _ 1 (by omega) _) _ 2 (by omega) _
 | some ks=>
  rw[htk] at he;obtain⟨pv,rfl,qn⟩:=he;have qm:=Ab qn;have qi:=Ab htk;clear qn htk;have d0:=(Aa S1).c3
  go_wp2_with (fail);refine (Ia (Aa D1)).mono ?_
  rintro x w2 ⟨rfl,hb2⟩;have A2:=Ab ((Aa A1).low hb2);have D2:=Ab ((Aa D1).bel hb2);have T2:=Ab ((Aa T1).below (hb2.mono (Aa T1).ng));have P2:=Ab ((Aa qm).bel hb2);have q6:=Ab ((Aa q9).trans (hb2.mono (Aa q9).size));clear hb2 A1 D1 T1 qm q9 d0
  go_wp2_with (fail);have qg:=Aa qv ks (Aa qi)
  refine (NV (F:=F) (d:=v.1) (fun t ht=>A6 (qg.2 t ht) hn) (A6 qg.1 hn) (Aa T2).rng ⟨top,(Aa D2).rep⟩ (Aa P2)).mono ?_;rintro x w3 ⟨ho,hb3⟩;have A3:=Ab ((Aa A2).low hb3);have D3:=Ab ((Aa D2).bel hb3);have T3:=Ab ((Aa T2).below (hb3.mono (Aa T2).ng));have qd:=Ab ((Aa q6).trans (hb3.mono (Aa q6).size));clear hb3 A2 D2 T2 P2 q6 qg;cases hfd:Ak v.1 ks with
  | error c=>
   rw[hfd] at ho;have qu:x=.returned (.tuple #[.pointer none,.int .i64 c]):=ho;subst qu;have HE:=Ab (show RR=(c,0,[]) by rw[Aa qf];unfold bJ;rw[Aa qi];simp only[hfd]);have qr:c=11\/c=12:=Ja hfd;have e1:((c:Int)==0)=false:=by rw[beq_eq_false_iff_ne];omega
   have e2:((c:Int) != 0)=true:=by rw[bne_iff_ne];omega
   clear ho hfd qr
   go_wp2_with (fail);refine (Bj c _).mono ?_
   rintro x w4 ⟨rfl,q4⟩;have a2:=(Aa A3).low q4;have g0:=a2.c0;have g1:=a2.c1;have g2:=a2.c2;have z:=a2.fz;have qj:=Ab ((Aa qd).trans (q4.mono (Aa qd).size));clear a2 q4;unfold AW
   go_wp2_with (fail);refine AS (v:=AW c []) (by simp[CR,results57,go_sem,AW,g0,g1,g2]) rfl ⟨?_,?_⟩
   ·rw[Aa HE];rfl
   ·exact An (An (An (Aa qj) _ 0 (by omega) _) _ 1 (by omega) _) _ 2 (by omega) _
  | ok y=>
   rw[hfd] at ho;obtain⟨yv,rfl,hy⟩:=ho;have HE:=Ab (show RR=(0,0,Zm top y) by rw[Aa qf];unfold bJ;rw[Aa qi];simp only[hfd]);have qo:=(Aa D3).gd;obtain⟨M,hM,qq,qw⟩:=Sf qo (Aa D3).len hfd hy;have q5:=Ab (CT hM (Aa T3) (by omega));rw[qq] at q5;clear hfd hy qo hM qq qw
   go_wp2_with (fail);refine (Aa q5).mono ?_
   rintro x w4 ⟨rfl,q4⟩;have a2:=(Aa A3).low q4;have g0:=a2.c0;have g1:=a2.c1;have g2:=a2.c2;have z:=a2.fz;have qj:=Ab ((Aa qd).trans (q4.mono (Aa qd).size));clear a2 q4 q5
   go_wp2_with (fail);refine AS (v:=AW 0 (Zm top y)) (by simp[CR,results57,go_sem,AW,g0,g1,g2]) rfl ⟨?_,?_⟩
   ·rw[Aa HE];rfl
   ·exact An (An (An (Aa qj) _ 0 (by omega) _) _ 1 (by omega) _) _ 2 (by omega) _
theorem Tu(h:ZW s=none):aU d e v s t=9:=by unfold aU;rw[h]
theorem VC{c:Nat}(h:ZW s=some ks)(h2:Zy t d e=(c,none)):aU d e v s t=c:=by unfold aU;rw[h];simp only[h2]
theorem VA{x:To}{c:Nat}(h:ZW s=some ks)(h2:Zy t d e=(0,some x))(h3:Ak v ks=.error c):aU d e v s t=c:=by unfold aU;rw[h];simp only[h2,h3]
theorem Xe{x y:To}(h:ZW s=some ks)(h2:Zy t d e=(0,some x))(h3:Ak v ks=.ok y):aU d e v s t=if veq y x=true then 0 else 14:=by unfold aU;rw[h];simp only[h2,h3]
theorem TC{f:Nat}{F F':Nat->Prop}{v v':Value}{a b:To}(h:Rep f F w v a)(h':Rep top F' w v' b):Calls AI 82 #[v,v'] w fun e w'=>e=.returned (.bool (veq a b))/\F2 w.heap.size w w':=
 Eq (max f top) F F' w v v' a b (h.up (F1 _ _)) (h'.up (CH _ _))
theorem VG:Kb:=by
 intro S d e n p v F s t w hn hS hD hT;obtain⟨D,R,wp,rfl,qv⟩:=hD;have qf:F2 w.heap.size w (w.alloc (.cells #[.int .i64 0,.int .i64 0,.string ⟨#[]⟩] 46)):=(G0 _ _).alloc (C1 _) _;have q9:=hT.below (qf.mono hT.ng);have q5:=Ab (Lb hn q9 q9.pesc q9.mx);have qr:=Ab (qv.bel qf);have HS:=Ab (hS.low qf);have HT:=Ab q9;have HA:=Ab (AB.new w);have qp:=Ab qf;have z8:=hT.ng;have z7:=Ab (fun ks (h:ZW s=some ks)=>Mf h);obtain⟨RR,qo⟩:∃RR,RR=aU d e v.1 s t:=⟨_,rfl⟩
 rw[<- qo];have qk:=Ab qo;clear hT hS qv q9 qf qo
 go_enter func58,ntmps58
 go_wp2_with (fail);refine (Aa q5).mono ?_
 rintro x w1 ⟨he,hb1⟩;have A1:=Ab ((Aa HA).low hb1);have S1:=Ab ((Aa HS).low hb1);have D1:=Ab ((Aa qr).bel hb1);have T1:=Ab ((Aa HT).below (hb1.mono (Aa HT).ng));have q8:=(Aa qp).trans (hb1.mono (Aa qp).size);have qb:=Ab q8;clear hb1 q8 HA HS qr qp HT q5;cases htk:ZW s with
 | none=>
  rw[htk] at he;have qz:x=.returned (.tuple #[.slice none 0 0,.bool false]):=he;subst qz;have HE:=Ab (show RR=9 by rw[Aa qk,Tu htk]);clear he htk
  go_wp2_with (fail);refine (Bj 9 _).mono ?_
  rintro x w2 ⟨rfl,hb2⟩;have a2:=(Aa A1).low hb2;have g0:=a2.c0;have g1:=a2.c1;have g2:=a2.c2;have z:=a2.fz;have q6:=Ab ((Aa qb).trans (hb2.mono (Aa qb).size));clear a2 hb2;unfold AW
  go_wp2_with (fail);refine AS (v:=AW 9 []) (by simp[CR,results58,go_sem,AW,g0,g1,g2]) rfl ⟨?_,?_⟩
  ·rw[Aa HE];rfl
  ·exact An (An (An (Aa q6) _ 0 (by omega) _) _ 1 (by omega) _) _ 2 (by omega) _
 | some ks=>
  rw[htk] at he;obtain⟨pv,rfl,qu⟩:=he;have qt:=Ab qu;have qj:=Ab htk;clear qu htk
  go_wp2_with (fail);refine (Q8 t (Aa S1) (Aa T1)).mono ?_
  rintro x w2 ⟨p2,c,rfl,hb2,z6⟩;have A2:=Ab ((Aa A1).low hb2);have S2:=Ab ((Aa S1).low hb2);have D2:=Ab ((Aa D1).bel hb2);have T2:=Ab ((Aa T1).below (hb2.mono (Aa T1).ng));have P2:=Ab ((Aa qt).bel hb2);have q6:=Ab ((Aa qb).trans (hb2.mono (Aa qb).size));clear hb2 A1 D1 T1 S1 qt qb;rcases z6 with⟨hpos,qi⟩|⟨rfl,xv,qi,qg⟩
  ·have HE:=Ab (show RR=c by rw[Aa qk,VC (Aa qj) qi]);have e0:((c:Int) != 0)=true:=by simp;omega
   clear qi hpos
   go_wp2_with (fail);refine (Bj c _).mono ?_
   rintro x w3 ⟨rfl,hb3⟩;have a2:=(Aa A2).low hb3;have g0:=a2.c0;have g1:=a2.c1;have g2:=a2.c2;have z:=a2.fz;have q7:=Ab ((Aa q6).trans (hb3.mono (Aa q6).size));clear a2 hb3;unfold AW
   go_wp2_with (fail);refine AS (v:=AW c []) (by simp[CR,results58,go_sem,AW,g0,g1,g2]) rfl ⟨?_,?_⟩
   ·rw[Aa HE];rfl
   ·exact An (An (An (Aa q7) _ 0 (by omega) _) _ 1 (by omega) _) _ 2 (by omega) _
  have qw:=Ab qi;have HX:=Ab qg;clear qi qg;have d0:=(Aa S2).c3
  go_wp2_with (fail);refine (Ia (Aa D2)).mono ?_
  rintro x w3 ⟨rfl,hb3⟩;have A3:=Ab ((Aa A2).low hb3);have D3:=Ab ((Aa D2).bel hb3);have T3:=Ab ((Aa T2).below (hb3.mono (Aa T2).ng));have P3:=Ab ((Aa P2).bel hb3);have X3:=Ab ((Aa HX).bel hb3);have q7:=Ab ((Aa q6).trans (hb3.mono (Aa q6).size));clear hb3 A2 D2 T2 P2 HX q6 d0 S2
  go_wp2_with (fail);have qq:=Aa z7 ks (Aa qj)
  refine (NV (F:=F) (d:=v.1) (fun t ht=>A6 (qq.2 t ht) hn) (A6 qq.1 hn) (Aa T3).rng ⟨top,(Aa D3).rep⟩ (Aa P3)).mono ?_;rintro x w4 ⟨ho,qe⟩;have A4:=Ab ((Aa A3).low qe);have T4:=Ab ((Aa T3).below (qe.mono (Aa T3).ng));have X4:=Ab ((Aa X3).bel qe);have qd:=Ab ((Aa q7).trans (qe.mono (Aa q7).size));clear qe A3 D3 T3 P3 q7 X3 qq;cases hfd:Ak v.1 ks with
  | error c=>
   rw[hfd] at ho;have z1:x=.returned (.tuple #[.pointer none,.int .i64 c]):=ho;subst z1;have HE:=Ab (show RR=c by rw[Aa qk,VA (Aa qj) (Aa qw) hfd]);have qx:c=11\/c=12:=Ja hfd;have e1:((c:Int)==0)=false:=by rw[beq_eq_false_iff_ne];omega
   have e2:((c:Int) != 0)=true:=by rw[bne_iff_ne];omega
   clear ho hfd qx
   go_wp2_with (fail);refine (Bj c _).mono ?_
   rintro x w5 ⟨rfl,q0⟩;have a2:=(Aa A4).low q0;have g0:=a2.c0;have g1:=a2.c1;have g2:=a2.c2;have z:=a2.fz;have qh:=Ab ((Aa qd).trans (q0.mono (Aa qd).size));clear a2 q0;unfold AW
   go_wp2_with (fail);refine AS (v:=AW c []) (by simp[CR,results58,go_sem,AW,g0,g1,g2]) rfl ⟨?_,?_⟩
   ·rw[Aa HE];rfl
   ·exact An (An (An (Aa qh) _ 0 (by omega) _) _ 1 (by omega) _) _ 2 (by omega) _
  | ok y=>
   rw[hfd] at ho;obtain⟨yv,rfl,f,hy⟩:=ho;have HE:=Ab (show RR=if veq y xv=true then 0 else 14 by rw[Aa qk,Xe (Aa qj) (Aa qw) hfd]);have q4:=Ab (TC hy (Aa X4));clear hfd hy
   go_wp2_with (fail);refine (Aa q4).mono ?_
   rintro x w5 ⟨rfl,q0⟩;have A5:=Ab ((Aa A4).low q0);have qh:=Ab ((Aa qd).trans (q0.mono (Aa qd).size));have T5:=Ab ((Aa T4).below (q0.mono (Aa T4).ng));clear q0 A4 qd T4 q4 X4;cases hq:veq y xv with
   | false=>
    have qm:=Ab (show RR=14 by rw[Aa HE,hq,if_neg (by decide)]);clear hq HE
    go_wp2_with (fail);refine (Bj 14 _).mono ?_
    rintro x w6 ⟨rfl,qn⟩;have a2:=(Aa A5).low qn;have g0:=a2.c0;have g1:=a2.c1;have g2:=a2.c2;have z:=a2.fz;have qy:=Ab ((Aa qh).trans (qn.mono (Aa qh).size));clear a2 qn;unfold AW
    go_wp2_with (fail);refine AS (v:=AW 14 []) (by simp[CR,results58,go_sem,AW,g0,g1,g2]) rfl ⟨?_,?_⟩
    ·rw[Aa qm];rfl
    ·exact An (An (An (Aa qy) _ 0 (by omega) _) _ 1 (by omega) _) _ 2 (by omega) _
   | true=>
    have qm:=Ab (show RR=0 by rw[Aa HE,hq,if_pos rfl]);clear hq HE;have a2:=Aa A5;have g0:=a2.c0;have g1:=a2.c1;have g2:=a2.c2;have z:=a2.fz;clear a2
    go_wp2_with (fail);refine AS (v:=AW 0 []) (by simp[CR,results58,go_sem,AW,g0,g1,g2]) rfl ⟨?_,?_⟩
    ·rw[Aa qm];rfl
    ·exact An (An (An (Aa qh) _ 0 (by omega) _) _ 1 (by omega) _) _ 2 (by omega) _
def nv(x:By×Bool×Bool):Value:=.agg #[.string ⟨x.1.toArray⟩,.bool x.2.1,.bool x.2.2]
def DK(x:By×Bool×Bool):Lit:=.string (keyBytes [.string x.1,.bool x.2.1,.bool x.2.2])
theorem Va:laidOutB AI=true:=by kernel_rfl
theorem XB:(219:TypeId)<Tryz.prog.types.size:=of_decide_eq_true (by kernel_rfl)
theorem nka:Tryz.prog.keyTypeAt 2 219=true:=by kernel_rfl
theorem TX:Keyed AI 219:=Keyed.of_law (deep_law_laid Va (m:=2) (by omega) XB nka (by rw[underlying219]))
theorem nkl(x:By×Bool×Bool):WideAt.IsKeyLit (DK x):=by unfold DK;exact trivial
theorem nkt:Tryz.prog.keyType 219=true:=by kernel_rfl
theorem Rz:Tryz.prog.cellsOf 219=3:=by kernel_rfl
theorem ncs:Tryz.prog.cellsOf 9=1:=by kernel_rfl
theorem ncb:Tryz.prog.cellsOf 4=1:=by kernel_rfl
theorem nsz:∃m,Tryz.prog.types.size=m+1:=⟨Tryz.prog.types.size-1,by have:=XB;unfold TypeId at this;omega⟩
theorem PR(x:By×Bool×Bool)(h:x.1.length<=1048576):keyOf AI 219 (nv x)=some (DK x):=by
 obtain⟨m,hm⟩:=nsz;have hl:(⟨x.1.toArray⟩:ByteArray).size<=F5:=by rw[AU];unfold F5;omega
 unfold keyOf nv DK;rw[underlying219];simp only[nkt,Value.formed,underlying219,Rz,hm];simp[Program.keyLits,underlying219,underlying9,underlying4,Rz,ncs,ncb,Value.cells,hl]
theorem MN{y:By×Bool×Bool}(h1:x.1.length<=1048576)(h2:y.1.length<=1048576)(h:DK x=DK y):x=y:=by
 have:=TX.inj (PR x h1) (h▸PR y h2);obtain⟨a,b,c⟩:=x;obtain⟨a',b',c'⟩:=y;unfold nv at this
 grind
def JB:List (By×Bool×Bool):=[(NM,true,false),(F7,false,false),(Fh,true,false),(LX,false,true),(cG,false,true),(LW,true,false)]
def opN(k:Nat):By×Bool×Bool:=JB.getD k ([],false,false)
theorem Yu(w:CD):(Bs 220 (.agg Cu) (.int .i64 0)).run AI w=.ok (nv (opN 0)) w:=by kernel_rfl
theorem Yt(w:CD):(Bs 220 (.agg Cu) (.int .i64 1)).run AI w=.ok (nv (opN 1)) w:=by kernel_rfl
theorem Ys(w:CD):(Bs 220 (.agg Cu) (.int .i64 2)).run AI w=.ok (nv (opN 2)) w:=by kernel_rfl
theorem Yr(w:CD):(Bs 220 (.agg Cu) (.int .i64 3)).run AI w=.ok (nv (opN 3)) w:=by kernel_rfl
theorem Yq(w:CD):(Bs 220 (.agg Cu) (.int .i64 4)).run AI w=.ok (nv (opN 4)) w:=by kernel_rfl
theorem Yp(w:CD):(Bs 220 (.agg Cu) (.int .i64 5)).run AI w=.ok (nv (opN 5)) w:=by kernel_rfl
theorem Xs(k:Nat)(hk:k<6)(w:CD):(Bs 220 (.agg Cu) (.int .i64 k)).run AI w=.ok (nv (opN k)) w:=by
 match k,hk with
 | 0,_=>exact Yu w
 | 1,_=>exact Yt w
 | 2,_=>exact Ys w
 | 3,_=>exact Yr w
 | 4,_=>exact Yq w
 | 5,_=>exact Yp w
theorem Il(k:Nat)(hk:k<6):(opN k).1.length<=1048576:=by
 match k,hk with
 | 0,_=>decide
 | 1,_=>decide
 | 2,_=>decide
 | 3,_=>decide
 | 4,_=>decide
 | 5,_=>decide
theorem V2{i j:Nat}(hi:i<6)(hj:j<6)(h:opN i=opN j):i=j:=by
 have:∀i,i<6 -> ∀j,j<6->opN i=opN j->i=j:=by decide
 grind
def nD:Nat->DataW Value
 | 0=>.map []
 | k+1=>(nD k).put (DK (opN k)) (.lit (.int .i64 k))
theorem MO:∀k,IsMap (nD k)
 | 0=>⟨[],rfl⟩
 | k+1=>(MO k).put _ _
theorem RA{i:Nat}:∀ {k:Nat},k<=6->i<k->has (nD k) (DK (opN i))=true /\ ∀z,(nD k).atKey (DK (opN i)) z=.lit (.int .i64 i)
 | 0,_,h=>absurd h (by omega)
 | k+1,hk,h=>by
  by_cases e:i=k
  ·subst e;exact⟨has_put_same (MO _) (nkl _) _,fun z=>atKey_put_same (MO _) (nkl _) _ _⟩
  ·have q0:DK (opN i)≠DK (opN k):=fun h2=>e (V2 (by omega) (by omega) (MN (Il _ (by omega)) (Il _ (by omega)) h2));obtain⟨h1,h2⟩:=RA (k:=k) (i:=i) (by omega) (by omega);exact⟨(has_put_other q0 _).trans h1,fun z=>(atKey_put_other q0 _ _).trans (h2 z)⟩
theorem Vb{x:By×Bool×Bool}(hx:x.1.length<=1048576):∀ {k:Nat},k<=6->(∀i,i<k->x≠opN i)->has (nD k) (DK x)=false
 | 0,_,_=>rfl
 | k+1,hk,h=>by
  have q0:DK x≠DK (opN k):=fun h2=>h k (by omega) (MN hx (Il _ (by omega)) h2);exact (has_put_other q0 _).trans (Vb hx (by omega) fun i hi=>h i (by omega))
def Z1(x:By×Bool×Bool):Option Nat:=JB.findIdx? (·==x)
theorem dP(h:Z1 x=none)(i:Nat)(hi:i<6):x≠opN i:=by
 rintro rfl;have:∀i,i<6->Z1 (opN i)≠none:=by decide
 grind
theorem dQ{k:Nat}(h:Z1 x=some k):k<6/\x=opN k:=by
 unfold Z1 at h;obtain⟨h1,h2,_⟩:=List.findIdx?_eq_some_iff_getElem.1 h;have h3:JB[k]=x:=by grind
 exact⟨h1,by grind [Z1,List.getD,opN]⟩
def bK(x:By×Bool×Bool):Option Nat:=(Z1 (x.1,false,false)).orElse fun _=>(Z1 (x.1,x.2.1,false)).orElse fun _=>Z1 (x.1,false,x.2.2)
theorem dR(x:By×Bool×Bool):bK x=Gf x.1 x.2.1 x.2.2:=by
 obtain⟨n,a,b⟩:=x;by_cases h0:n=F7
 ·subst h0;rfl
 by_cases h1:n=NM
 ·subst h1;revert a b;decide
 by_cases h2:n=Fh
 ·subst h2;revert a b;decide
 by_cases h3:n=LW
 ·subst h3;revert a b;decide
 by_cases h4:n=LX
 ·subst h4;revert a b;decide
 by_cases h5:n=cG
 ·subst h5;revert a b;decide
 have e0:(F7==n)=false:=by grind
 have e1:(NM==n)=false:=by grind
 have e2:(Fh==n)=false:=by grind
 have e3:(LW==n)=false:=by grind
 have e4:(LX==n)=false:=by grind
 have e5:(cG==n)=false:=by grind
 have pe:∀ (m:By) (c d e f:Bool),((m,c,d)==(n,e,f))=(m==n && ((c,d)==(e,f))):=fun _ _ _ _ _=>rfl;unfold bK Z1 Gf JB
 simp_all
end Go.Proofs.YtdpomdelmdofmaaGreatDoor
