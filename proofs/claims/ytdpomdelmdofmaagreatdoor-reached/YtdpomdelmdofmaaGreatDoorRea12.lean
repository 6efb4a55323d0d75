import Derived.Test.YtdpomdelmdofmaaGreatDoorRea11
import Derived.Lib.ItoaLen
open Go.Lib renaming encodeRune->AI,trimLeftB->AS,trimRightB->A1,decDigits->Bs,decodeN->Dp,itoa->G0
open List renaming cons_append->AT,nil_append->A2,map_cons->A4,mem_cons->A6,length_cons->BY,tail_cons->CD,getD_cons_zero->CR,length_nil->C1,pairwise_cons->C2,map_nil->Dt,append_assoc->DD,getD_cons_succ->D0,length_append->D2,head?_dropWhile_not->D3,not_mem_nil->Ft,sum_cons->F1,map_map->F2,flatMap_cons->F7,append_nil->G1
open Go.DataW renaming insert->A3,map->E0,put->HG
open Go.World renaming cell?->A5
open UInt8 renaming ofNat->CH
open Go.WideShapes renaming insert_perm->CL,bytes_trans->HB
open Go.Proofs.Tryz renaming prog->D1
open Int renaming le_refl->FD
open List.Pairwise renaming nil->F5
open Nat renaming strongRecOn->G2,le_refl->HE
open Go renaming World->G3,Calls->HD
open Or renaming inl->HA,inr->HC
open Prod renaming ext->HF
set_option maxHeartbeats 4000000
namespace Go.Proofs.YtdpomdelmdofmaaGreatDoor
open Go.Proofs.Tryz Go.RowKit Go.Maps
variable{B vb f m:Nat}{q0 l r ds:By}{F:Nat->Prop}
section
variable{w:G3}{b:Nat}{k:Int}{n:Nm}{s:By}{sl mp:Value}
theorem VB.c0(h:VB w b k n s sl mp):w.cell? ⟨b,0,none⟩=some (.int .i64 k):=by simp[A5,show w.heap[b]? = _ from h]
theorem VB.c1(h:VB w b k n s sl mp):w.cell? ⟨b,1,none⟩=some (.bool n.1):=by simp[A5,show w.heap[b]? = _ from h]
theorem VB.c2(h:VB w b k n s sl mp):w.cell? ⟨b,2,none⟩=some (.string ⟨n.2.1.toArray⟩):=by simp[A5,show w.heap[b]? = _ from h]
theorem VB.c3(h:VB w b k n s sl mp):w.cell? ⟨b,3,none⟩=some (.int .i64 n.2.2):=by simp[A5,show w.heap[b]? = _ from h]
theorem VB.c4(h:VB w b k n s sl mp):w.cell? ⟨b,4,none⟩=some (.string ⟨s.toArray⟩):=by simp[A5,show w.heap[b]? = _ from h]
theorem VB.c5(h:VB w b k n s sl mp):w.cell? ⟨b,5,none⟩=some sl:=by simp[A5,show w.heap[b]? = _ from h]
theorem VB.c6(h:VB w b k n s sl mp):w.cell? ⟨b,6,none⟩=some mp:=by simp[A5,show w.heap[b]? = _ from h]
end
theorem Ai.word{w:G3}(h:Ai w)(k:Nat)(hk:k<3):w.cell? ⟨0,k,none⟩=some (.string ⟨(CJ k).toArray⟩):=by
 obtain⟨t,fr,e⟩:=h.words
 match k,hk with
 | 0,_=>simp[A5,e,Cv,CJ,gL]
 | 1,_=>simp[A5,e,Cv,CJ,gL]
 | 2,_=>simp[A5,e,Cv,CJ,gL]
theorem SU{b k:Nat}{w:G3}(h:Bu B b q0 w)(hk:k<3)(hvb:VB w vb k n0 [] (.slice none 0 0) (.map none))(hT:Ai w)(hB:B<=w.heap.size)(hl:q0.length+5<=8796093022210):
  HD D1 78 #[.pointer (some ⟨b,0,none⟩),.pointer (some ⟨vb,0,none⟩)] w fun e w'=>e=.returned (.tuple #[])/\Bu B b (q0++CJ k) w'/\Fr B b w w':=by
 have c0:=hvb.c0;have cw:=hT.word k hk;have q4:=Il k hk;clear hT hvb;have e3:((k:Int)==3)=false:=by simp;omega
 have e4:((k:Int)==4)=false:=by simp;omega
 have e5:((k:Int)==5)=false:=by simp;omega
 have e6:((k:Int)==6)=false:=by simp;omega
 generalize CJ k=wk at *
 go_enter func78,ntmps78
 go_wp2_with (fail);refine (JI wk h (by omega) hB).mono ?_
 rintro e w1 ⟨rfl,h1,f1⟩
 go_wp2_with (fail)
 go_end0
 grind
theorem Vy{b:Nat}{n:Nm}{w:G3}(h:Bu B b q0 w)(hvb:VB w vb 3 n [] (.slice none 0 0) (.map none))(hT:Ai w)(q4:NG<=B)(hB:B<=w.heap.size)(h0:-100000000<=n.2.2)(h1:n.2.2<=100000000)(hl:q0.length+(Cm n).length<=8796093022208):
  HD D1 78 #[.pointer (some ⟨b,0,none⟩),.pointer (some ⟨vb,0,none⟩)] w fun e w'=>e=.returned (.tuple #[])/\Bu B b (q0++Cm n) w'/\Fr B b w w':=by
 have c0:=hvb.c0;have c1:=hvb.c1;have c2:=hvb.c2;have c3:=hvb.c3;clear hvb
 go_enter func78,ntmps78
 go_wp2_with (fail);refine (Ki n h (by omega) hB hT q4 h0 h1).mono ?_
 rintro e w1 ⟨rfl,h1,f1⟩
 go_wp2_with (fail)
 go_end0
 grind
theorem Vw{b:Nat}{s:By}{w:G3}(h:Bu B b q0 w)(hvb:VB w vb 4 n0 s (.slice none 0 0) (.map none))(hB:B<=w.heap.size)(hl:q0.length+(Ag s).length<=8796093022208):
  HD D1 78 #[.pointer (some ⟨b,0,none⟩),.pointer (some ⟨vb,0,none⟩)] w fun e w'=>e=.returned (.tuple #[])/\Bu B b (q0++Ag s) w'/\Fr B b w w':=by
 have c0:=hvb.c0;have c4:=hvb.c4;have hq:=kL s;clear hvb
 go_enter func78,ntmps78
 go_wp2_with (fail);refine (Eo s h (by omega) hB).mono ?_
 rintro e w1 ⟨rfl,h1,f1⟩
 go_wp2_with (fail)
 go_end0
 grind
theorem Vz{b:Nat}{sl:Value}{ps:List Value}{es:List To}{q5:By}{w:G3}(hV:Pp f)(h:Bu B b q5 w)(hF:∀k,F k->k<B)(hvb:VB w vb 5 n0 [] sl (.map none))(hT:Ai w)(q9:NG<=B)(hB:B<=w.heap.size)(ho:w.ownsRow 0 80 1 sl ps.length ps)(hs:∀g,sl.ownBlock=some g->F g)(ha:Al (Rep f F w) ps es)(hl:q5.length+(1+((Am (es.map (dZ f))).length+1))<=8796093022208):
  HD D1 78 #[.pointer (some ⟨b,0,none⟩),.pointer (some ⟨vb,0,none⟩)] w fun e w'=>e=.returned (.tuple #[])/\Bu B b (q5++91::(Am (es.map (dZ f))++[93])) w'/\Fr B b w w':=by
 have c0:=hvb.c0;have c5:=hvb.c5;have hal:=ha.length;clear hvb;rcases ho.2 with⟨rfl,hn⟩|⟨g,cap,cur,rfl,hg,hgb,q0,q6,qb,htk⟩
 ·have qd:es=[]:=by grind
  subst qd;clear ho hs ha hal hn
  go_enter func78,ntmps78
  go_wp2_with (fail);refine (VA h hB (by omega)).mono ?_
  rintro e w1 ⟨rfl,h1,f1⟩
  go_wp2_with (fail)
  go_end0
  exact⟨rfl,h1,f1⟩
 ·have q4:∀k (h:k<ps.length),w.cell? ⟨g,k,none⟩=some ps[k]:=by
   intro k hk;have:=ho.cellAt k (by omega)
   grind
  have qe:=hF g (hs g rfl);have HL:=Ab hl;clear ho hs hal hgb qb htk hl;generalize q7:ps.length=np at c5 q0;have q8:=Ab q7;clear q7
  go_enter func78,ntmps78
  go_wp2_with (fail);refine (SV hV h hF hT q9 hB (Aa q8).symm q0 q6 q4 qe ha (Aa HL)).mono ?_
  rintro e w1 ⟨rfl,h1,f1⟩
  go_wp2_with (fail)
  go_end0
  grind
theorem Vx{b n:Nat}{D:List (Lit×DataW Value)}{es:List (Lit×To)}{w:G3}(hV:Pp f)(h:Bu B b q0 w)(hF:∀k,F k->k<B)(hvb:VB w vb 6 n0 [] (.slice none 0 0) (.map (some m)))(hT:Ai w)(q4:NG<=B)(hB:B<=w.heap.size)(hm:F m)(ho:w.ownsMap D1 9 RV m n (.map D))(hp:Pt (Rep f F w) D es)(hl:q0.length+(1+((Am ((eP es).map (eX f es))).length+1))<=8796093022208):
  HD D1 78 #[.pointer (some ⟨b,0,none⟩),.pointer (some ⟨vb,0,none⟩)] w fun e w'=>e=.returned (.tuple #[])/\Bu B b (q0++123::(Am ((eP es).map (eX f es))++[125])) w'/\Fr B b w w':=by
 have c0:=hvb.c0;have c6:=hvb.c6;have HL:=Ab hl;clear hvb hl
 go_enter func78,ntmps78
 go_wp2_with (fail);refine (cW hV h hF hT q4 hB hm ho hp (Aa HL)).mono ?_
 rintro e w1 ⟨rfl,h1,f1⟩
 go_wp2_with (fail)
 go_end0
 grind
theorem bF:∀f,Pp f:=by
 intro f;induction f with
 | zero=>intro B b q4 v d w F _ hr;exact hr.elim
 | succ f ih=>
  intro B b q4 v d w F h hr hF hT q0 hB hl;obtain⟨vb,rfl,hb,hr⟩:=hr;rcases hr with⟨k,hk,rfl,hvb⟩|⟨n,rfl,hvb,q5,q6⟩|⟨s,rfl,hvb⟩|⟨es,sl,ps,rfl,hvb,ho,hs,ha⟩|⟨es,m,n,D,rfl,hvb,hm,ho,hp⟩
  ·rw[Hv] at hl |-;have hw:4<=(CJ k).length:=by
    match k,hk with
    | 0,_=>decide
    | 1,_=>decide
    | 2,_=>decide
   exact SU h hk hvb hT hB (by have:=Il k hk;unfold CJ at *; omega)
  ·rw[Jr] at hl |-;exact Vy h hvb hT q0 hB q5 q6 hl
  ·rw[GW] at hl |-;exact Vw h hvb hB hl
  ·rw[CV] at hl |-;refine Vz ih h hF hvb hT q0 hB ho hs ha ?_
   grind
  ·rw[kT] at hl |-;refine Vx ih h hF hvb hT q0 hB hm ho hp ?_
   grind
theorem C9{v:Value}{d:To}{w:G3}(hr:Rep f F w v d)(hT:Ai w)(hl:(dZ f d).length<=8796093022208):
  HD D1 55 #[v] w fun e w'=>e=.returned (.string ⟨(dZ f d).toArray⟩)/\Below w.heap.size w w':=by
 have hF:Rep f (fun k=>k<w.heap.size) w v d:=hr.move (by grind);obtain⟨vb,rfl,hlt,_⟩:=hr.ptr;have q0:=(Below.refl w.heap.size w).alloc (HE _) (.cells #[.pointer none,.slice none 0 0] 119);have h0:Bu w.heap.size w.heap.size [] (w.alloc (.cells #[.pointer none,.slice none 0 0] 119)):=HA ⟨HE _,.slice none 0 0,by show (w.heap.push _)[w.heap.size]? = _;simp,World.ownsRow_nil _ _ _ _,by simp[Value.ownBlock]⟩;have q6:=hF.low (fun k hk=>hk) q0;have q4:=hT.below (q0.mono hT.ng);have q5:=hT.ng;clear hr hF hT
 go_enter func55,ntmps55
 go_wp2_with (fail);refine (bF f w.heap.size w.heap.size [] _ d _ _ h0 q6 (fun k hk=>hk) q4 q5 (by simp) (by grind)).mono ?_
 rintro e w1 ⟨rfl,h1,f1⟩
 go_wp2_with (fail);refine (Tryz.Builder_String_any w.heap.size w.heap.size _ w1 h1 (by have:=f1.low.size;simp at this;omega)).mono ?_
 rintro e w2 ⟨rfl,hb2⟩
 go_wp2_with (fail)
 go_ret;exact⟨by simp,(q0.trans f1.low).trans hb2⟩
theorem YT{σ:Type}(cl:UInt8)(item:By->σ->Option (By×σ))(I:By->σ->Prop)(hm:∀l l' s,I l s->l'.length<=l.length->I l' s)(hi:∀l s l' s',I l s->item l s=some (l',s')->I l' s')(n:Nat):
  ∀ (l:By) (s:σ) (r:By) (s':σ),I l s->gB cl item n l s=some (r,s')->I r s':=by
 induction n with
 | zero=>intro l s r s' _ h;cases h
 | succ n ih=>
  intro l s r s' hI h;unfold gB at h;split at h
  ·cases h
  ·rename_i l1 s1 h1;have h2:=hi _ _ _ _ (hm _ _ _ hI (AY l)) h1;have c:=AY l1
   grind
theorem DC{σ:Type}{op cl:UInt8}{item:By->σ->Option (By×σ)}(I:By->σ->Prop)(hm:∀l l' s,I l s->l'.length<=l.length->I l' s)(hi:∀l s l' s',I l s->item l s=some (l',s')->I l' s'){s:σ}{s':σ}(hI:I l.tail s)(h:Bn op cl item l s=some (r,s')):I r s'/\0<l.length:=by
 unfold Bn at h;split at h
 ·rename_i k;have:=Bb k;have b:=AY l.tail;split at h
  ·grind
  ·exact⟨YT cl item I hm hi _ _ _ _ _ (hm _ _ _ hI b) h,by omega⟩
 ·cases h
theorem ZW{n:Nm}(h:gO l=some (n,r)):n.2.1.length+r.length<=l.length:=by
 have hf:∀ {l:By} {n r},Cb l=some (n,r)->r.length<=l.length:=by
  intro l n r h;unfold Cb at h;have a:=Cz l.tail;have b:=Cz l.tail.tail
  grind
 have hb:∀ {b:Bool} {l:By} {n r},CC b l=some (n,r)->n.2.1.length+r.length<=l.length:=by
  intro b l n r h;unfold CC at h;have a:=Cz l;split at h
  ·cases h
  ·split at h
   ·cases h
   ·rename_i f r1 h1;have:=FW h1;split at h
    ·cases h
    ·rename_i e r2 h2;have:=hf h2;injection h with h;injection h with h3 h4;subst h4;subst h3;have h5:(C0 b (dg l++f) (e-f.length)).2.1.length<=(dg l++f).length:=by
      unfold C0;have h1:=Ge (dg l++f) 48;have h2:=Gd (AS (dg l++f) 48) 48
      grind
     grind
 unfold gO at h
 grind
theorem EN(s:By):(Ag s).length<=6*s.length+2:=by
 have:=J2 s;simp[Ag];omega
theorem Tu{s:By}(h:gG l=some (s,r)):s.length+4*r.length+4<=4*l.length:=by
 unfold gG at h;split at h
 ·rename_i k;have:=Bb k;have:=Q8 _ _ _ _ h;omega
 ·cases h
theorem MG(l:List By):(BC l).length=(l.map fun x=>x.length+1).sum:=by
 induction l with
 | nil=>rfl
 | cons x r ih=>simp[BC,ih];omega
theorem E9(l:List By):(Am l).length<=(l.map fun x=>x.length+1).sum:=by
 cases l with
 | nil=>simp[Am]
 | cons x r=>simp[Am,MG]
def ent(g:Nat)(p:Lit×To):Nat:=(Ag (strOf p.1)).length+(dZ g p.2).length+2
def Dr(g:Nat)(es:List (Lit×To)):Nat:=(es.map (ent g)).sum
theorem PT(g:Nat)(x:Lit×To)(l:List (Lit×To)):Dr g (A3 x l)=ent g x+Dr g l:=by
 induction l with
 | nil=>rfl
 | cons y r ih=>
  unfold A3;split
  ·rfl
  ·simp only[Dr,A4,F1] at ih |-; omega
theorem PU(g:Nat)(c:Lit×To->Bool)(l:List (Lit×To)):Dr g (l.filter c)<=Dr g l:=by
 induction l with
 | nil=>simp
 | cons y r ih=>
  rw[List.filter_cons];split
  ·simp only[Dr,A4,F1] at ih |-; omega
  ·simp only[Dr,A4,F1] at ih |-; omega
def SJ(g C:Nat)(l:By)(v:To):Prop:=∃es,v=.map es/\es.Pairwise (fun p q=>p.1≠q.1)/\(∀p∈es,∃x,p.1=.string x)/\Dr g es+40*l.length<=C
theorem Qx{g:Nat}{es:List (Lit×To)}(hp:es.Pairwise (fun p q=>p.1≠q.1))(hk:∀p∈es,∃x,p.1=.string x):
  (Am ((eP es).map (eX g es))).length<=Dr g es:=by
 refine Nat.le_trans (E9 _) ?_;rw[F2];have h1:((eP es).map ((fun x=>x.length+1) ∘ eX g es)).Perm ((fB es).map ((fun x=>x.length+1) ∘ eX g es)):=(List.mergeSort_perm _ _).map _;rw[h1.sum_nat];unfold fB Dr;rw[F2];apply Nat.le_of_eq;congr 1;apply List.map_congr_left;intro p q0;obtain⟨x,hx⟩:=hk p q0;have h2:fT es x=p.2:=by
  unfold fT;exact WideAt.atKey_mem .nil trivial hp (by grind)
 obtain⟨k,v⟩:=p;simp only at hx h2;subst hx;simp only[Function.comp,ent,strOf];rw[iP,h2];omega
theorem SJ.put{g C:Nat}{l' k:By}{v d:To}(h:SJ g C l v)(he:(Ag k).length+(dZ g d).length+2+40*l'.length<=40*l.length):SJ g C l' (HG v (.string k) d):=by
 obtain⟨es,rfl,hp,hk,hs⟩:=h;obtain⟨es',e1,q4⟩:=Tidy.put (D:=E0 es) (k:=.string k) ⟨es,rfl,hp⟩ trivial d;refine⟨es',e1,q4,?_,?_⟩
 ·have e2:es'=A3 (.string k,d) (es.filter fun p=>!p.1.sameKey (.string k)):=by
   have:E0 (A3 (.string k,d) (es.filter fun p=>!p.1.sameKey (.string k)))=E0 es':=e1
   grind
  intro p q0;rw[e2] at q0;rcases A6.1 ((CL _ _).mem_iff.1 q0) with rfl|h2
  ·grind
  grind
 ·have e2:es'=A3 (.string k,d) (es.filter fun p=>!p.1.sameKey (.string k)):=by
   have:E0 (A3 (.string k,d) (es.filter fun p=>!p.1.sameKey (.string k)))=E0 es':=e1
   grind
  rw[e2,PT];have h4:Dr g (es.filter fun p=>!p.1.sameKey (.string k))<=Dr g es:=PU g _ es;show ent g (.string k,d)+Dr g (es.filter fun p=>!p.1.sameKey (.string k))+40*l'.length<=C;have h3:ent g (.string k,d)=(Ag k).length+(dZ g d).length+2:=rfl;omega
theorem LW(k:Nat):(gL.getD k []).length<=5:=by
 match k with
 | 0=>decide
 | 1=>decide
 | 2=>decide
 | k+3=>simp[gL]
theorem Zv(f:Nat):∀ (lv:Int) (l:By) (fl:Fl) (v:To) (r:By) (fl':Fl),l.length<=2000->eN f lv l fl=some (v,r,fl') -> ∀g,(dZ g v).length+2+40*r.length<=40*l.length:=by
 induction f with
 | zero=>intro lv l fl v r fl' _ h;cases h
 | succ f ih=>
  intro lv l fl v r fl' hl h g;have q6:=EC _ _ _ _ _ _ _ h;cases g with
  | zero=>simp[dZ];omega
  | succ g=>
   unfold eN at h;split at h
   ·split at h
    ·cases h
    ·rename_i h1;have hI:=DC (σ:=To×Fl) (fun m s=>SJ g (40*l.tail.length) m s.1/\m.length<=2000) (fun a b s ⟨⟨es,e1,e2,e3,e4⟩,e5⟩ hab=>⟨⟨es,e1,e2,e3,by omega⟩,by omega⟩) (by
      rintro a s a' s' ⟨ho,ha⟩ hm;unfold Cr at hm;split at hm
      ·cases hm
      ·rename_i k l1 hq;have q1:=Tu hq;have q2:=EN k;have b:=AY l1;split at hm
       ·rename_i htk;have ht:=Bb htk;have c:=AY (eF l1).tail;split at hm
        ·cases hm
        ·rename_i d r2 q5 hv;have hc:=ih _ _ _ _ _ _ (by omega) hv g;injection hm with hm;injection hm with h1 h2;subst h1;subst h2;exact⟨ho.put (by omega),by omega⟩
       ·cases hm) ⟨⟨[],rfl,F5,by simp,by simp[Dr]⟩,by grind⟩ h1
     obtain⟨⟨⟨es,e1,e2,e3,e4⟩,e5⟩,hpos⟩:=hI;injection h with h;injection h with h2 h3;injection h3 with h3 h4;subst h2;subst h3;rename_i v2 _ _ _;simp only at e1;subst e1;have h9:=Qx (g:=g) e2 e3;have e6:dZ (g+1) (E0 es)=123::(Am ((eP es).map (eX g es))++[125]):=rfl
     grind
   ·split at h
    ·split at h
     ·cases h
     ·rename_i h1;have hI:=DC (σ:=List To×Fl) (fun m s=>(s.1.map fun v=>(dZ g v).length+1).sum+40*m.length<=40*l.tail.length/\m.length<=2000) (by omega) (by
       rintro a s a' s' ⟨ho,ha⟩ hm;unfold CI at hm;split at hm
       ·cases hm
       ·rename_i d r2 q5 hv;have hc:=ih _ _ _ _ _ _ ha hv g
        grind) (by grind) h1
      obtain⟨⟨e4,e5⟩,hpos⟩:=hI;injection h with h;injection h with h2 h3;injection h3 with h3 h4;subst h2;subst h3;rw[CV];rename_i q0 _;have h9:=E9 (q0.map (dZ g));rw[F2] at h9;have:=List.length_tail (l:=l);simp only[BY,D2,C1];simp only[Function.comp_def] at h9
      grind
    ·split at h
     ·split at h
      ·cases h
      ·rename_i s r1 h1;have q1:=Tu h1;have q2:=EN s;injection h with h;injection h with h2 h3;injection h3 with h3 h4;subst h2;subst h3;rw[GW];omega
     ·split at h
      ·split at h
       ·cases h
       ·rename_i n r1 h1;have q1:=ZW h1;have q2:=IG h1 hl;have q3:=Wb n;have q4:=Lib.itoa_length_le n.2.2 (by omega) (by omega);injection h with h;injection h with h2 h3;injection h3 with h3 h4;subst h2;subst h3;rw[Jr];omega
      ·split at h
       ·cases h
       ·rename_i k r1 h1;injection h with h;injection h with h2 h3;injection h3 with h3 h4;subst h2;subst h3;rw[Hv];have:=LW k;omega
theorem GI{t:By}{d x:Int}{v:To}(h:eH t d x=(0,some v))(g:Nat):(dZ g v).length<=80000:=by
 unfold eH at h;split at h
 ·grind
 ·rename_i hl;have hs:=AY t;split at h
  ·grind
  ·rename_i v2 r fl hv;have hb:=Zv _ _ _ _ _ _ _ (by omega) hv g
   grind
def Sc(c:Nat):Prop:=c<55296\/(57344<=c/\c<=1114111)
abbrev eY(c:Nat):By:=AI (c:Int)
def Ut(s:By):Prop:=∃cs:List Nat,(∀c∈cs,Sc c)/\s=cs.flatMap eY
theorem Ym(h:B8 l=some (m,r)):Sc m:=by
 unfold B8 at h;split at h
 ·cases h
 ·rename_i a r1 hx;have h2:=Nz hx;unfold Sc
  grind
theorem WV(l:By)(T:List (UInt8×Nat))(hT:∀x∈T,x.2<55296)(h:Ev l T=some (m,r)):Sc m:=by
 induction T with
 | nil=>cases h
 | cons x T ih=>
  obtain⟨c,n⟩:=x;rw[Ev] at h;split at h
  ·injection h with h;injection h with h1 h2;have:=hT (c,n) (by simp);exact HA (by omega)
  grind
theorem Eb(l:By)(h:l≠[]):fG l=Dp l.length (l.getD 0 0).toNat (l.getD 1 0).toNat (l.getD 2 0).toNat (l.getD 3 0).toNat:=by
 unfold fG;rw[if_neg (by grind),Lib.decode_at];have hg:∀i,(ByteArray.mk l.toArray).get! i=l.getD i 0:=by
  intro i;simp[ByteArray.get!,List.getD,Array.getElem!_eq_getD,Array.getD];split
  ·grind
  ·rename_i hi;rw[List.getElem?_eq_none (by omega)];rfl
 rw[hg,hg,hg,hg];rfl
theorem Zi(n a b c d:Nat):Sc (Dp n a b c d).1:=by
 grind [Sc,Dp]
theorem aP(l:By):Sc (fG l).1:=by
 by_cases h:l=[]
 ·subst h;exact HC ⟨by decide,by decide⟩
 ·rw[Eb l h];exact Zi _ _ _ _ _
theorem Vd(h:fS l=some (m,r)):Sc m:=by
 unfold fS at h;split at h
 ·unfold gZ at h;split at h
  ·exact Ym h
  ·exact WV _ F0 (by decide) h
 ·split at h
  ·cases h
  ·injection h with h;injection h with h1 h2;rw[<- h1];exact aP l
theorem Zm(f:Nat):∀ (l s r:By),C5 f l=some (s,r)->Ut s:=by
 induction f with
 | zero=>intro l s r h;cases h
 | succ f ih=>
  intro l s r h;unfold C5 at h;split at h
  ·injection h with h;injection h with h1 h2;subst h1;exact⟨[],by simp,rfl⟩
  ·split at h
   ·cases h
   ·rename_i c r1 hc;split at h
    ·cases h
    ·rename_i s1 r2 hx;obtain⟨cs,h1,h2⟩:=ih _ _ _ hx;injection h with h;injection h with h3 h4;subst h3;exact⟨c::cs,by
      intro x hm;rcases A6.1 hm with rfl|hm
      ·exact Vd hc
      grind,by grind⟩
theorem Ts{s:By}(h:gG l=some (s,r)):Ut s:=by
 unfold gG at h;split at h
 ·exact Zm _ _ _ _ h
 ·cases h
theorem Hq(a b:By):AK (a++b)=AK a++AK b:=by
 induction a with
 | nil=>rfl
 | cons c r ih=>simp[AK,ih]
theorem MM:∀n:Fin 16,Eu (FU n.val).toNat=some n.val:=by decide
theorem YB(c:UInt8)(l:By):eS (c::l)=c.toNat:=rfl
theorem WJ(a b:Nat)(ha:a<16)(hb:b<16)(l:By):Ce 4 0 (48::48::FU a::FU b::l)=some (a*16+b,l):=by
 have h0:Eu 48=some 0:=by decide
 have e1:=MM ⟨a,ha⟩;have e2:=MM ⟨b,hb⟩;simp only at e1 e2;simp only[Ce,YB,CD,e1,e2,show (48:UInt8).toNat=48 from rfl,h0];simp
theorem MR(l:By)(h:∀x∈l,128<=x.toNat):AK l=l:=by
 induction l with
 | nil=>rfl
 | cons c r ih=>
  have hc:=h c (by simp);rw[AK,ih (by grind)];unfold B1
  grind
theorem Db(c:Nat)(h:c<128):AI (c:Int)=[CH c]:=by
 rw[AI,Lib.encodeRuneZ_one (by omega) (by omega)];simp
theorem F4(c:Nat)(h:128<=c)(hc:Sc c)(l:By):(∀x∈AI (c:Int),128<=x.toNat)/\fG (AI (c:Int)++l)=(c,(AI (c:Int)).length)/\2<=(AI (c:Int)).length:=by
 unfold Sc at hc;have hn:∀z:Int,0<=z->z<256->(z.toNat.toUInt8).toNat=z.toNat:=by
  intro z h0 h1;simp;omega
 by_cases h2:c<=2047
 ·rw[AI,Lib.encodeRuneZ_two (by omega) (by omega)];have a1:=hn (192+(c:Int) / 64) (by omega) (by omega);have a2:=hn (128+(c:Int) % 64) (by omega) (by omega);refine⟨?_,?_,by simp⟩
  ·intro x hx;simp only[A4,Dt,A6,Ft,or_false] at hx;rcases hx with rfl|rfl
   ·rw[a1];omega
   ·rw[a2];omega
  ·rw[Eb _ (by simp)];simp only[A4,Dt,AT,A2,CR,D0,a1,a2,BY,C1];unfold Dp
   repeat' split
   all_goals first|(exfalso;omega)|(apply HF<;>simp only<;>omega)
 ·by_cases h3:c<=65535
  ·rw[AI,Lib.encodeRuneZ_three (by omega)];have a1:=hn (224+(c:Int) / 4096) (by omega) (by omega);have a2:=hn (128+(c:Int) / 64 % 64) (by omega) (by omega);have a3:=hn (128+(c:Int) % 64) (by omega) (by omega);refine⟨?_,?_,by simp⟩
   ·intro x hx;simp only[A4,Dt,A6,Ft,or_false] at hx;rcases hx with rfl|rfl|rfl
    ·rw[a1];omega
    ·rw[a2];omega
    ·rw[a3];omega
   ·rw[Eb _ (by simp)];simp only[A4,Dt,AT,A2,CR,D0,a1,a2,a3,BY,C1];unfold Dp
    repeat' split
    all_goals first|(exfalso;omega)|(apply HF<;>simp only<;>omega)
  ·rw[AI,Lib.encodeRuneZ_four (by omega) (by omega)];have a1:=hn (240+(c:Int) / 262144) (by omega) (by omega);have a2:=hn (128+(c:Int) / 4096 % 64) (by omega) (by omega);have a3:=hn (128+(c:Int) / 64 % 64) (by omega) (by omega);have a4:=hn (128+(c:Int) % 64) (by omega) (by omega);refine⟨?_,?_,by simp⟩
   ·intro x hx;simp only[A4,Dt,A6,Ft,or_false] at hx;rcases hx with rfl|rfl|rfl|rfl
    ·rw[a1];omega
    ·rw[a2];omega
    ·rw[a3];omega
    ·rw[a4];omega
   ·rw[Eb _ (by simp)];simp only[A4,Dt,AT,A2,CR,D0,a1,a2,a3,a4,BY,C1];unfold Dp
    repeat' split
    all_goals first|(exfalso;omega)|(apply HF<;>simp only<;>omega)
theorem Dy(c d:UInt8)(l:By):eA (c::l) d=(c==d):=rfl
theorem Zn(c:Nat)(hc:Sc c)(l:By):fS (AK (AI (c:Int))++l)=some (c,l)/\eA (AK (AI (c:Int))++l) 34=false:=by
 by_cases h:c<128
 ·rw[Db c h];have e:(CH c).toNat=c:=by simp;omega
  simp only[AK,G1];unfold B1;rw[e];by_cases h1:c=34\/c=92
  ·rw[if_pos h1];rcases h1 with rfl|rfl
   ·exact⟨rfl,rfl⟩
   ·exact⟨rfl,rfl⟩
  ·rw[if_neg h1];by_cases h2:c<32
   ·rw[if_pos h2];refine⟨?_,rfl⟩;simp only[AT,A2];unfold fS;rw[if_pos (show eA (92::_) 92=true from rfl),CD];unfold gZ;rw[if_pos (show eA (117::_) 117=true from rfl),CD];unfold B8;rw[WJ _ _ (by omega) (by omega)]
    grind
   ·rw[if_neg h2];have q0:(CH c==34)=false:=by
     rw[beq_eq_false_iff_ne];intro k;simp_all
    have q4:(CH c==92)=false:=by
     rw[beq_eq_false_iff_ne];intro k;simp_all
    simp only[AT,A2,Dy];refine⟨?_,q0⟩;unfold fS;rw[Dy,if_neg (by grind)];have hd:fG (CH c::l)=(c,1):=by
     rw[Eb _ (by simp),CR,e];unfold Dp
     grind
    grind
 ·obtain⟨h1,h2,h3⟩:=F4 c (by omega) hc l;rw[MR _ h1];generalize hx:AI (c:Int)=e at *
  match e,h3 with
  | a::b::t,_=>
   have ha:=h1 a (by simp);have q0:(a==34)=false:=by
    rw[beq_eq_false_iff_ne];rintro rfl;simp at ha
   have q4:(a==92)=false:=by
    rw[beq_eq_false_iff_ne];rintro rfl;simp at ha
   refine⟨?_,q0⟩;unfold fS;rw[show eA (a::b::t++l) 92=false from q4,if_neg (by decide),h2,if_neg (by simp only[BY];omega)];simp
theorem Xq:∀ (cs:List Nat),(∀c∈cs,Sc c) -> ∀ (f:Nat) (l:By),cs.length<f->C5 f (AK (cs.flatMap eY)++34::l)=some (cs.flatMap eY,l):=by
 intro cs;induction cs with
 | nil=>
  intro _ f l hf
  match f,hf with
  | f+1,_=>rfl
 | cons c cs ih=>
  intro h f l hf
  match f,hf with
  | f+1,hf=>
   obtain⟨h1,h2⟩:=Zn c (h c (by simp)) (AK (cs.flatMap eY)++34::l);rw[F7,Hq,DD];unfold C5
   grind
theorem WW(a:UInt8):1<=(B1 a).length:=by
 grind [B1]
theorem Oa{s:By}(h:Ut s)(l:By):gG (Ag s++l)=some (s,l):=by
 obtain⟨cs,h1,rfl⟩:=h;unfold gG Ag;simp only[AT,DD,A2,CD];rw[if_pos (show eA (34::_) 34=true from rfl)];apply Xq _ h1;have q0:∀cs:List Nat,cs.length<=(AK (cs.flatMap eY)).length:=by
  intro cs;induction cs with
  | nil=>simp
  | cons c cs ih=>
   rw[F7,Hq,D2,BY];have:1<=(AK (eY c)).length:=by
    unfold eY;have h2:=(Lib.encodeRuneZ_length (c:Int)).1;have h3:(AI (c:Int)).length=(Lib.encodeRuneZ (c:Int)).length:=by simp[AI]
    match hx:AI (c:Int) with
    | []=>grind
    | a::t=>
     rw[AK,D2];have:=WW a;omega
   omega
 grind
def Gn(n:Nm):Prop:=n=(false,[],0)\/(n.2.1≠[]/\(∀c∈n.2.1,fK c=true)/\n.2.1.head? ≠ some 48/\n.2.1.getLast? ≠ some 48)
def Nd(r:By):Prop:=∀c t,r=c::t->fK c=false/\c≠46/\c≠101/\c≠69
theorem UX(l:By):∀c∈dg l,fK c=true:=by
 induction l with
 | nil=>intro c h;cases h
 | cons d r ih=>
  intro c h;unfold dg at h
  grind
theorem S5(ds:By)(hd:∀c∈ds,fK c=true)(hw:A1 (AS ds 48) 48≠[]):
  (∀c∈A1 (AS ds 48) 48,fK c=true)/\(A1 (AS ds 48) 48).head? ≠ some 48/\(A1 (AS ds 48) 48).getLast? ≠ some 48:=by
 have q5:∀c∈AS ds 48,c∈ds:=fun c h=>(List.dropWhile_sublist _).subset h;have q0:A1 (AS ds 48) 48 <+: AS ds 48:=by
  unfold A1;have:=List.dropWhile_suffix (l:=(AS ds 48).reverse) (·==48)
  grind
 refine⟨by grind,?_,?_⟩
 ·have h1:(A1 (AS ds 48) 48).head? = (AS ds 48).head?:=by
   obtain⟨t,ht⟩:=q0;have q4:∀ (A B:By),A≠[]->A.head? = (A++B).head?:=by
    intro A B hA;cases A with
    | nil=>grind
    | cons a b=>rfl
   grind
  rw[h1];have:=D3 (·==(48:UInt8)) ds
  intro k;unfold AS at k
  grind
 ·intro k;unfold A1 at k;rw[List.getLast?_reverse] at k;have:=D3 (·==(48:UInt8)) (AS ds 48).reverse
  grind
theorem TV(ng:Bool)(ds:By)(e:Int)(hd:∀c∈ds,fK c=true):Gn (C0 ng ds e):=by
 unfold C0;simp only;split
 ·exact HA rfl
 ·rename_i hw;exact HC ⟨hw,S5 ds hd hw⟩
theorem Mv{ng:Bool}{n:Nm}(h:CC ng l=some (n,r)):Gn n:=by
 unfold CC at h;split at h
 ·cases h
 ·split at h
  ·cases h
  ·rename_i f r1 hf;split at h
   ·cases h
   ·injection h with h;injection h with h1 h2;rw[<- h1];apply TV;intro c hc;rcases List.mem_append.1 hc with hc|hc
    ·exact UX _ c hc
    ·unfold Dq at hf;split at hf
     ·split at hf
      ·cases hf
      ·injection hf with hf;injection hf with h3 h4;rw[<- h3] at hc;exact UX _ c hc
     grind
theorem V8{n:Nm}(h:gO l=some (n,r)):Gn n:=by
 unfold gO at h;split at h
 ·exact Mv h
 ·exact Mv h
theorem K8(ds T:By)(hd:∀c∈ds,fK c=true)(hT:∀c t,T=c::t->fK c=false):dg (ds++T)=ds/\fQ (ds++T)=T:=by
 induction ds with
 | nil=>
  cases T with
  | nil=>exact⟨rfl,rfl⟩
  | cons c t=>
   grind [dg,fQ,fK]
 | cons d ds ih=>
  grind [dg,fQ,fK]
theorem F6(u:Nat):∀c∈Bs u,fK c=true:=by
 induction u using G2 with
 | ind u ih=>
  have q0:∀k,k<10->fK (CH (48+k))=true:=by
   intro k hk;have:(CH (48+k)).toNat=48+k:=by simp;omega
   unfold fK
   grind
  grind [fK,List.mem_singleton,Bs]
theorem FH(u:Nat):Bs u≠[]:=by
 rw[Bs];split
 ·simp
 ·simp
theorem UB(a b:By)(n:Int):B5 (a++b) n=B5 b (B5 a n):=by
 induction a generalizing n with
 | nil=>rfl
 | cons c r ih=>exact ih _
theorem MQ(u:Nat)(hu:u<=1000000):B5 (Bs u) 0=u:=by
 induction u using G2 with
 | ind u ih=>
  have q0:∀k,k<10->(CH (48+k)).toNat=48+k:=by
   intro k hk;simp;omega
  grind [Bs,UB,B5]
theorem Km(hne:ds≠[])(T:By)(c:UInt8):eA (ds++T) c=eA ds c:=by
 cases ds with
 | nil=>grind
 | cons d r=>rfl
theorem JK(hd:∀c∈ds,fK c=true)(k:UInt8)(hk:fK k=false):eA ds k=false:=by
 cases ds with
 | nil=>rfl
 | cons d r=>
  grind [fK,Dy,beq_eq_false_iff_ne]
theorem Uz(ex:Int)(hb:-1000000<=ex/\ex<=1000000)(r:By)(hr:Nd r):Cb (101::(G0 ex++r))=some (ex,r):=by
 have hT:∀c t,r=c::t->fK c=false:=fun c t e=>(hr c t e).1;unfold Cb;rw[if_pos (by rfl),CD];unfold G0;by_cases hn:ex<0
 ·rw[if_pos hn,AT,if_pos (by rfl),CD];obtain⟨e1,e2⟩:=K8 (Bs ex.natAbs) r (F6 _) hT;rw[e1,e2,if_neg (FH _),MQ _ (by omega)]
  grind
 ·rw[if_neg hn];obtain⟨e1,e2⟩:=K8 (Bs ex.toNat) r (F6 _) hT;rw[Km (FH _),Km (FH _),JK (F6 _) 45 (by decide),JK (F6 _) 43 (by decide),if_neg (by decide),if_neg (by decide),e1,e2,if_neg (FH _),MQ _ (by omega)]
  grind
theorem MN{T:By}(h:∀c t,T=c::t->c≠46):Dq T=some ([],T):=by
 unfold Dq;rw[if_neg];cases T with
 | nil=>decide
 | cons c t=>
  rw[Dy]
  grind
theorem MP{T:By}(h:Nd T):Cb T=some (0,T):=by
 unfold Cb;rw[if_neg];cases T with
 | nil=>decide
 | cons c t=>
  obtain⟨_,_,h3,h4⟩:=h c t rfl;rw[Dy,Dy]
  grind
theorem X5(h1:ds.head? ≠ some 48)(h2:ds.getLast? ≠ some 48):AS ds 48=ds/\A1 ds 48=ds:=by
 have hd:∀l:By,l.head? ≠ some 48->l.dropWhile (·==48)=l:=by
  intro l hl;cases l with
  | nil=>rfl
  | cons c t=>
   simp_all
 refine⟨hd ds h1,?_⟩;unfold A1
 grind
theorem Mu{ng:Bool}{ex:Int}(hne:ds≠[])(hd:∀c∈ds,fK c=true)(h1:ds.head? ≠ some 48)(h2:ds.getLast? ≠ some 48)(hb:-1000000<=ex/\ex<=1000000)(r:By)(hr:Nd r):
  CC ng (ds++((if ex=0 then [] else 101::G0 ex)++r))=some ((ng,ds,ex),r):=by
 have hT:∀c t,(if ex=0 then [] else 101::G0 ex)++r=c::t->fK c=false/\c≠46:=by
  intro c t h;split at h
  ·exact⟨(hr c t h).1,(hr c t h).2.1⟩
  ·injection h with h3 h4;rw[<- h3];exact⟨by decide,by decide⟩
 obtain⟨e1,e2⟩:=K8 ds _ hd (fun c t h=>(hT c t h).1);have q0:Cb ((if ex=0 then [] else 101::G0 ex)++r)=some (ex,r):=by
  by_cases h0:ex=0
  ·rw[if_pos h0,A2,h0];exact MP hr
  ·rw[if_neg h0];exact Uz ex hb r hr
 have hk:eA ds 48=false:=by
  cases ds with
  | nil=>rfl
  | cons c t=>
   rw[Dy,beq_eq_false_iff_ne]
   grind
 unfold CC;rw[e1,e2,Km hne,hk,if_neg (by simp[hne]),MN (by grind)];simp only;rw[q0];simp only[G1,C1];obtain⟨t1,t2⟩:=X5 h1 h2;unfold C0
 grind
theorem V7{n:Nm}(hg:Gn n)(hb:-1000000<=n.2.2/\n.2.2<=1000000)(r:By)(hr:Nd r):gO (Cm n++r)=some (n,r):=by
 rcases hg with rfl|⟨hne,hd,h1,h2⟩
 ·unfold Cm;rw[if_pos rfl];unfold gO;rw[if_neg (by rw[AT,Dy];decide)];obtain⟨e1,e2⟩:=K8 [48] r (by decide) (fun c t e=>(hr c t e).1);unfold CC;rw[e1,e2,if_neg (by simp),MN (fun c t e=>(hr c t e).2.1)];simp only;rw[MP hr];rfl
 ·obtain⟨ng,ds,ex⟩:=n;simp only at hne hd h1 h2 hb;unfold Cm;rw[if_neg hne];simp only;unfold gO;cases ng with
  | true=>
   simp only[if_pos,DD,AT,A2];rw[if_pos (by rfl),CD];exact Mu hne hd h1 h2 hb r hr
  | false=>
   simp only[Bool.false_eq_true,if_false,DD,A2];rw[Km hne,JK hd 45 (by decide),if_neg (by decide)];exact Mu hne hd h1 h2 hb r hr
def gM(d x:Int)(fl:Fl):Prop:=fl.1=false/\fl.2.1<=d/\fl.2.2<=x
def dY(d x:Int):Nat->Int->To->Prop
 | 0,_,_=>False
 | f+1,lv,v=>lv<=d/\((∃k,k<3/\v=AF k)\/(∃s,Ut s/\v=Ao s)\/(∃n,Gn n /\ -x<=n.2.2/\n.2.2<=x/\v=Bd n) \/
   (∃es,(∀e∈es,dY d x f (lv+1) e)/\v=Af es) \/
   (∃es,es.Pairwise (fun p q=>p.1.before q.1=true)/\(∀p∈es,(∃s,p.1=.string s/\Ut s)/\dY d x f (lv+1) p.2)/\v=Ap es))
theorem Ih{x:Lit×To}{l:List (Lit×To)}(hx:∃s,x.1=.string s)(hs:∀p∈l,∃s,p.1=.string s)(hne:∀p∈l,p.1≠x.1)(h:l.Pairwise (fun p q=>p.1.before q.1=true)):
  (A3 x l).Pairwise (fun p q=>p.1.before q.1=true):=by
 obtain⟨s,q0⟩:=hx;induction l with
 | nil=>simp[A3]
 | cons y r ih=>
  rw[C2] at h;obtain⟨h1,h2⟩:=h;obtain⟨t,ht⟩:=hs y (by simp);unfold A3;split
  ·rename_i hb;refine C2.2 ⟨fun q hq=>?_,C2.2 ⟨h1,h2⟩⟩;rcases A6.1 hq with rfl|hq
   ·exact hb
   ·obtain⟨u,hu⟩:=hs q (by simp[hq]);have h3:=h1 q hq;rw[q0,ht] at hb;rw[ht,hu] at h3;rw[q0,hu];exact HB _ _ _ hb h3
  ·rename_i hb;refine C2.2 ⟨fun q hq=>?_,by grind⟩;rcases A6.1 ((CL _ _).mem_iff.1 hq) with rfl|hq
   ·rw[q0,ht] at hb |-;have hn:t≠s:=by
     grind
    rcases WideAt.bytes_total t s hn with h3|h3
    ·exact h3
    ·exact absurd h3 hb
   grind
theorem Zu(d x:Int)(f:Nat):∀ (lv:Int) (l:By) (fl:Fl) (v:To) (r:By) (fl':Fl),eN f lv l fl=some (v,r,fl')->gM d x fl'->gM d x fl/\dY d x f lv v:=by
 induction f with
 | zero=>intro lv l fl v r fl' h;cases h
 | succ f ih=>
  intro lv l fl v r fl' h q4;have q0:∀ {e:Int},gM d x (fl.1,(max fl.2.1 lv,e))->fl.2.2<=e->gM d x fl/\lv<=d:=by
   rintro e ⟨h1,h2,h3⟩ he;simp only at h1 h2 h3;exact⟨⟨h1,by omega,by omega⟩,by omega⟩
  unfold eN at h;split at h
  ·split at h
   ·cases h
   ·rename_i r1 v1 fl1 h1;obtain⟨hI,_⟩:=DC (σ:=To×Fl) (fun _ s=>gM d x s.2->gM d x (fl.1,(max fl.2.1 lv,fl.2.2)) /\ ∃es,s.1=Ap es/\es.Pairwise (fun p q=>p.1.before q.1=true)/\(∀p∈es,(∃s,p.1=.string s/\Ut s)/\dY d x f (lv+1) p.2))
     (fun _ _ _ h _=>h) (by
      rintro a s a' s' hI hm q5;unfold Cr at hm;split at hm
      ·cases hm
      ·rename_i k l1 hq;split at hm
       ·split at hm
        ·cases hm
        ·rename_i w r2 qd hv;injection hm with hm;injection hm with h1 h2;subst h1;subst h2;obtain⟨k1,k2,k3⟩:=q5;simp only[Bool.or_eq_false_iff] at k1 k2 k3;obtain⟨q8,hg⟩:=ih _ _ _ _ _ _ hv ⟨k1.1,k2,k3⟩;obtain⟨hb,es,e1,e2,e3⟩:=hI q8;refine⟨hb,?_⟩;have hno:=k1.2;rw[e1] at hno |-;have q7:∀p∈es,p.1.sameKey (.string k)=false:=by
          simpa[Ap,Maps.has] using hno
         have q6:(es.filter fun p=>!p.1.sameKey (.string k))=es:=List.filter_eq_self.2 (by grind);refine⟨A3 (.string k,w) es,by simp only[Ap,HG,q6],?_,?_⟩
         ·refine Ih ⟨k,rfl⟩ (fun p hp=>?_) (fun p hp=>?_) e2
          ·grind
          ·intro e;have:=q7 p hp;rw[e] at this;simp[Lit.sameKey] at this
         ·intro p hp;rcases A6.1 ((CL _ _).mem_iff.1 hp) with rfl|hp
          ·exact⟨⟨k,rfl,Ts hq⟩,hg⟩
          grind
       ·cases hm) (fun h=>⟨h,[],rfl,F5,by simp⟩) h1
    injection h with h;injection h with h2 h3;injection h3 with h3 h4;subst h2;subst h4;obtain⟨hb,es,e1,e2,e3⟩:=hI q4;obtain⟨b1,b2⟩:=q0 hb (FD _);exact⟨b1,b2,by grind⟩
  ·split at h
   ·split at h
    ·cases h
    ·rename_i r1 qb fl1 h1;obtain⟨hI,_⟩:=DC (σ:=List To×Fl) (fun _ s=>gM d x s.2->gM d x (fl.1,(max fl.2.1 lv,fl.2.2)) /\ ∀e∈s.1,dY d x f (lv+1) e)
      (fun _ _ _ h _=>h) (by
       rintro a s a' s' hI hm q5;unfold CI at hm
       grind) (by grind) h1
     injection h with h;injection h with h2 h3;injection h3 with h3 h4;subst h2;subst h4;obtain⟨hb,q9⟩:=hI q4;obtain⟨b1,b2⟩:=q0 hb (FD _);exact⟨b1,b2,by grind⟩
   ·split at h
    ·split at h
     ·cases h
     ·rename_i s r1 h1;injection h with h;injection h with h2 h3;injection h3 with h3 h4;subst h2;subst h4;obtain⟨b1,b2⟩:=q0 q4 (FD _);exact⟨b1,b2,HC (HA ⟨s,Ts h1,rfl⟩)⟩
    ·split at h
     ·split at h
      ·cases h
      ·rename_i n r1 h1;injection h with h;injection h with h2 h3;injection h3 with h3 h4;subst h2;subst h4;obtain⟨b1,b2⟩:=q0 q4 (by omega);have h5:max (max fl.2.2 n.2.2) (-n.2.2)<=x:=q4.2.2;exact⟨b1,b2,HC (HC (HA ⟨n,V8 h1,by omega,by omega,rfl⟩))⟩
     ·split at h
      ·cases h
      ·rename_i k r1 h1;injection h with h;injection h with h2 h3;injection h3 with h3 h4;subst h2;subst h4;obtain⟨b1,b2⟩:=q0 q4 (FD _);refine⟨b1,b2,HA ⟨k,?_,rfl⟩⟩;have hk:∀ (ws:List By) (k0:Nat),Cu l k0 ws=some (k,r1)->k<k0+ws.length:=by
        intro ws;induction ws with
        | nil=>intro k0 h;cases h
        | cons w ws qe=>
         intro k0 h;unfold Cu at h
         grind
       simpa[gL] using hk _ _ h1
end Go.Proofs.YtdpomdelmdofmaaGreatDoor
